/-
  Histories (chapter 10): the model's Concurrent.
-/
import Derived.Test.YtiogebflfnicgaaConA
namespace Go.Proofs.Ytiogebflfnicgaa
open Go.RowKit

theorem mach_fr {zs : List Int} {ts : List Thd} {cs : List Cll} {clk stp : Int} (h : machB zs ts cs clk stp = true) {k : Nat} {x : Cll} (hx : cs[k]? = some x) : x.fr ≤ 1000000 := by
  unfold machB callsB at h
  simp only [Bool.and_eq_true] at h
  have h2 := List.all_eq_true.1 h.2.1.2 x (List.mem_of_getElem? hx)
  unfold stepB fitB at h2
  simp only [Bool.and_eq_true] at h2
  have h3 := h2.1.1.1
  unfold Cll.ok clB at h3
  simp only [Bool.and_eq_true] at h3
  exact (inB_true h3.1.2).2
theorem keepC7 {w w' : World} {b p : Nat} {th op arg fr te code res : Int} (hb : Below w.heap.size w w') (h : w.cell? ⟨b, p, none⟩ = some (.int .i64 th) ∧ w.cell? ⟨b, p + 1, none⟩ = some (.int .i64 op) ∧ w.cell? ⟨b, p + 2, none⟩ = some (.int .i64 arg) ∧ w.cell? ⟨b, p + 3, none⟩ = some (.int .i64 fr) ∧ w.cell? ⟨b, p + 4, none⟩ = some (.int .i64 te) ∧ w.cell? ⟨b, p + 5, none⟩ = some (.int .i64 code) ∧ w.cell? ⟨b, p + 6, none⟩ = some (.int .i64 res)) : w'.cell? ⟨b, p, none⟩ = some (.int .i64 th) ∧ w'.cell? ⟨b, p + 1, none⟩ = some (.int .i64 op) ∧ w'.cell? ⟨b, p + 2, none⟩ = some (.int .i64 arg) ∧ w'.cell? ⟨b, p + 3, none⟩ = some (.int .i64 fr) ∧ w'.cell? ⟨b, p + 4, none⟩ = some (.int .i64 te) ∧ w'.cell? ⟨b, p + 5, none⟩ = some (.int .i64 code) ∧ w'.cell? ⟨b, p + 6, none⟩ = some (.int .i64 res) := by
  obtain ⟨h0, h1, h2, h3, h4, h5, h6⟩ := h
  exact ⟨cell_keep hb h0, cell_keep hb h1, cell_keep hb h2, cell_keep hb h3, cell_keep hb h4, cell_keep hb h5, cell_keep hb h6⟩

set_option maxHeartbeats 4000000 in
set_option maxRecDepth 100000 in
theorem specConcurrent_any (A T C : Option Addr) (ca ct : Nat) (zs : List Int) (ts : List Thd) (cs : List Cll) (clk stp : Int) (cc : Nat) (w : World) (hz : zs.length ≤ 1048576) (hA : Rd w A zs) (hT : RdR Thd.cs w T ts) (hC : RdR Cll.cs w C cs) :
    Calls Try.prog 34 #[.agg #[.slice A zs.length ca, .slice T ts.length ct, .int .i64 clk, .int .i64 stp, .slice C cs.length cc]] w fun e w' => e = .returned (.tuple #[.int .i64 (if machB zs ts cs clk stp = true then fwd cs else 0 : Nat), .int .i64 (if machB zs ts cs clk stp = true then 0 else 1)]) ∧ Below w.heap.size w w' := by
  have HA := Lib.hid hA; have HT := Lib.hid hT; have HC := Lib.hid hC; clear hA hT hC
  have HM0 := Lib.hid (BoxC.new 64 w #[.slice A zs.length ca, .slice T ts.length ct, .int .i64 clk, .int .i64 stp, .slice C cs.length cc])
  cases QM : machB zs ts cs clk stp
  · rw [if_neg (by simp), if_neg (by simp)]
    go_enter Try.func34, Try.ntmps34
    go_wp2_with fail
    refine (specMachineOK_any _ _ _ _ _ _ _ zs ts cs clk stp _ rfl hz (HA.out.below (below_alloc _ _)) (HT.out.below (below_alloc _ _)) (HC.out.below (below_alloc _ _))).mono ?_
    rintro e w1 ⟨rfl, hb⟩
    rw [QM]
    have HB := Lib.hid (below_trans (below_alloc _ _) hb)
    clear hb
    go_wp2
    go_ret2
    exact ⟨rfl, HB.out⟩
  have HLG := Lib.hid (mach_long QM)
  have HQM := Lib.hid QM
  rw [if_pos rfl, if_pos rfl]
  go_enter Try.func34, Try.ntmps34
  go_wp2_with fail
  refine (specMachineOK_any _ _ _ _ _ _ _ zs ts cs clk stp _ rfl hz (HA.out.below (below_alloc _ _)) (HT.out.below (below_alloc _ _)) (HC.out.below (below_alloc _ _))).mono ?_
  rintro e w1 ⟨rfl, hb⟩
  rw [QM]
  have HB1 := Lib.hid (below_trans (below_alloc _ _) hb)
  have HM1 := Lib.hid (HM0.out.below hb)
  clear hb HM0
  have hm := HM1.out.cell
  go_wp2_with fail
  go_loopw [4, 5] (fun pv i wr => ∃ (k : Nat), k ≤ cs.length ∧ i = .int .i64 k ∧ pv = .int .i64 (fwd (cs.take k) : Nat) ∧ BoxC 64 wr w.heap.size #[.slice A zs.length ca, .slice T ts.length ct, .int .i64 clk, .int .i64 stp, .slice C cs.length cc] ∧ Below w.heap.size w wr) (fun _ i _ => cs.length - (intOf i).toNat)
  case atStart => exact ⟨0, Nat.zero_le _, rfl, rfl, HM1.out, HB1.out⟩
  case round =>
    clear hm HM1 HB1
    obtain ⟨k, hk, rfl, rfl, hmb, hbl⟩ := hrel
    have HB := Lib.hid hbl; have HM := Lib.hid hmb
    clear hbl hmb
    have hm := HM.out.cell
    have hk4 : k ≤ 4096 := by have := HLG.out; omega
    by_cases hlt : k < cs.length
    · have hlt' : (k : Int) < cs.length := by omega
      obtain ⟨x, hx⟩ : ∃ x, cs[k]? = some x := ⟨_, List.getElem?_eq_getElem hlt⟩
      obtain ⟨b, o, rfl, hrow⟩ := HC.out.row Cll.len k x hx
      have HTK1 := Lib.hid (takeC hx)
      have HF1 := Lib.hid (mach_fr HQM.out hx)
      clear hx
      obtain ⟨th, op, arg, fr, te, code, res⟩ := x
      have HC1 := Lib.hid (cellsCall th op arg fr te code res hrow)
      clear hrow
      obtain ⟨p, hp⟩ : ∃ p, fwd (cs.take k) = p := ⟨_, rfl⟩
      have HP := Lib.hid hp
      have hpb : p ≤ 16777216 := by rw [← hp]; exact fwd_bound (by rw [List.length_take]; have := HLG.out; omega)
      rw [hp]
      clear hp
      go_wp2_with fail
      go_loopw [4, 6] (fun pv j wr => ∃ (m q : Nat), m ≤ k ∧ j = .int .i64 m ∧ pv = .int .i64 q ∧ q = fwd (cs.take k) + cntV ⟨th, op, arg, fr, te, code, res⟩ (cs.take m) ∧ BoxC 64 wr w.heap.size #[.slice A zs.length ca, .slice T ts.length ct, .int .i64 clk, .int .i64 stp, .slice (some ⟨b, o, none⟩) cs.length cc] ∧ Below w.heap.size w wr) (fun _ j _ => k - (intOf j).toNat)
      case atStart => exact ⟨0, p, Nat.zero_le _, rfl, rfl, by rw [HP.out]; simp [cntV], HM.out, HB.out⟩
      case round =>
        clear hm HM HB
        obtain ⟨m, q, hmk, rfl, rfl, hcq, hmb, hbl⟩ := hrel
        have HB3 := Lib.hid hbl; have HM3 := Lib.hid hmb; have HCQ := Lib.hid hcq
        clear hbl hmb hcq
        have hm := HM3.out.cell
        have hqb : q ≤ 16781312 := by
          have h1 := HCQ.out; have h2 := cntV_le ⟨th, op, arg, fr, te, code, res⟩ (cs.take m)
          rw [List.length_take] at h2; rw [HP.out] at h1; omega
        by_cases hmn : m < k
        · have hmn' : (m : Int) < k := by omega
          have hml : m < cs.length := by omega
          have hml' : (m : Int) < cs.length := by omega
          obtain ⟨y, hy⟩ : ∃ y, cs[m]? = some y := ⟨_, List.getElem?_eq_getElem hml⟩
          obtain ⟨b', o', heq, hrow⟩ := HC.out.row Cll.len m y hy
          simp only [Option.some.injEq, Addr.mk.injEq, and_true] at heq
          obtain ⟨rfl, rfl⟩ := heq
          have HTK := Lib.hid (takeC hy)
          have HF2 := Lib.hid (mach_fr HQM.out hy)
          clear hy
          obtain ⟨th2, op2, arg2, fr2, te2, code2, res2⟩ := y
          have hc2 := cellsCall th2 op2 arg2 fr2 te2 code2 res2 hrow
          have HR1 := Lib.hid (keepC7 HB3.out HC1.out)
          have HR2 := Lib.hid (keepC7 HB3.out hc2)
          clear hrow hc2
          have e2 : IntKind.i64.wrap ((q : Int) + 1) = (q : Int) + 1 := IntWalk.i64_in _ (by omega)
          have e3 : IntKind.i64.wrap ((q : Int) + 0) = (q : Int) := by rw [Int.add_zero]; exact IntWalk.i64_in _ (by omega)
          have e4 : IntKind.i64.wrap (q : Int) = (q : Int) := IntWalk.i64_in _ (by omega)
          cases qo : ovB fr te fr2 te2
          · have HQ : Hid (q = fwd (cs.take k) + cntV ⟨th, op, arg, fr, te, code, res⟩ (cs.take (m + 1))) := by
              unfold Hid; rw [HTK.out, cntV_app, HCQ.out]; simp [ovC, qo]
            go_upto_region 10 with fail
            go_region_held3 (fun w' => (∀ j : Nat, w'.cell? ⟨w.heap.size, j, none⟩ = (#[.slice A zs.length ca, .slice T ts.length ct, .int .i64 clk, .int .i64 stp, .slice (some ⟨b, o, none⟩) cs.length cc] : Array Value)[j]?) ∧ (w'.cell? ⟨b, o + k * 7, none⟩ = some (.int .i64 th) ∧ w'.cell? ⟨b, o + k * 7 + 1, none⟩ = some (.int .i64 op) ∧ w'.cell? ⟨b, o + k * 7 + 2, none⟩ = some (.int .i64 arg) ∧ w'.cell? ⟨b, o + k * 7 + 3, none⟩ = some (.int .i64 fr) ∧ w'.cell? ⟨b, o + k * 7 + 4, none⟩ = some (.int .i64 te) ∧ w'.cell? ⟨b, o + k * 7 + 5, none⟩ = some (.int .i64 code) ∧ w'.cell? ⟨b, o + k * 7 + 6, none⟩ = some (.int .i64 res)) ∧ (w'.cell? ⟨b, o + m * 7, none⟩ = some (.int .i64 th2) ∧ w'.cell? ⟨b, o + m * 7 + 1, none⟩ = some (.int .i64 op2) ∧ w'.cell? ⟨b, o + m * 7 + 2, none⟩ = some (.int .i64 arg2) ∧ w'.cell? ⟨b, o + m * 7 + 3, none⟩ = some (.int .i64 fr2) ∧ w'.cell? ⟨b, o + m * 7 + 4, none⟩ = some (.int .i64 te2) ∧ w'.cell? ⟨b, o + m * 7 + 5, none⟩ = some (.int .i64 code2) ∧ w'.cell? ⟨b, o + m * 7 + 6, none⟩ = some (.int .i64 res2))) (first | exact ⟨HM3.out.cell, HR1.out, HR2.out⟩ | exact ⟨(HM3.out.below (below_drew_trans hb7)).cell, ⟨cell_keep (below_drew_trans hb7) HR1.out.1, cell_keep (below_drew_trans hb7) HR1.out.2.1, cell_keep (below_drew_trans hb7) HR1.out.2.2.1, cell_keep (below_drew_trans hb7) HR1.out.2.2.2.1, cell_keep (below_drew_trans hb7) HR1.out.2.2.2.2.1, cell_keep (below_drew_trans hb7) HR1.out.2.2.2.2.2.1, cell_keep (below_drew_trans hb7) HR1.out.2.2.2.2.2.2⟩, ⟨cell_keep (below_drew_trans hb7) HR2.out.1, cell_keep (below_drew_trans hb7) HR2.out.2.1, cell_keep (below_drew_trans hb7) HR2.out.2.2.1, cell_keep (below_drew_trans hb7) HR2.out.2.2.2.1, cell_keep (below_drew_trans hb7) HR2.out.2.2.2.2.1, cell_keep (below_drew_trans hb7) HR2.out.2.2.2.2.2.1, cell_keep (below_drew_trans hb7) HR2.out.2.2.2.2.2.2⟩⟩)
              (first
                | (go_at_call 87; (with_reducible refine (l09Overlap_any _ _ _ _ _ _ _ _ _ _ _ _ _ _ _ HF1.out HF2.out).mono ?_); rintro e w7 ⟨rfl, hb7⟩; rw [qo])
                | (go_at_call 86; (with_reducible refine (l01Bit_any _ _).mono ?_); rintro e w' ⟨rfl, rfl⟩))
            have HB5 := Lib.hid (below_trans HB3.out (below_drew_trans hb7))
            have HM5 := Lib.hid (HM3.out.below (below_drew_trans hb7))
            clear hb7
            go_wp2
            go_roundw
            case rel => exact ⟨m + 1, q, by omega, by go_num, by go_num, HQ.out, HM5.out, HB5.out⟩
            case measure => simp [intOf]; omega
          · have HQ : Hid (q + 1 = fwd (cs.take k) + cntV ⟨th, op, arg, fr, te, code, res⟩ (cs.take (m + 1))) := by
              unfold Hid; rw [HTK.out, cntV_app, HCQ.out]; simp [ovC, qo]; omega
            go_upto_region 10 with fail
            go_region_held3 (fun w' => (∀ j : Nat, w'.cell? ⟨w.heap.size, j, none⟩ = (#[.slice A zs.length ca, .slice T ts.length ct, .int .i64 clk, .int .i64 stp, .slice (some ⟨b, o, none⟩) cs.length cc] : Array Value)[j]?) ∧ (w'.cell? ⟨b, o + k * 7, none⟩ = some (.int .i64 th) ∧ w'.cell? ⟨b, o + k * 7 + 1, none⟩ = some (.int .i64 op) ∧ w'.cell? ⟨b, o + k * 7 + 2, none⟩ = some (.int .i64 arg) ∧ w'.cell? ⟨b, o + k * 7 + 3, none⟩ = some (.int .i64 fr) ∧ w'.cell? ⟨b, o + k * 7 + 4, none⟩ = some (.int .i64 te) ∧ w'.cell? ⟨b, o + k * 7 + 5, none⟩ = some (.int .i64 code) ∧ w'.cell? ⟨b, o + k * 7 + 6, none⟩ = some (.int .i64 res)) ∧ (w'.cell? ⟨b, o + m * 7, none⟩ = some (.int .i64 th2) ∧ w'.cell? ⟨b, o + m * 7 + 1, none⟩ = some (.int .i64 op2) ∧ w'.cell? ⟨b, o + m * 7 + 2, none⟩ = some (.int .i64 arg2) ∧ w'.cell? ⟨b, o + m * 7 + 3, none⟩ = some (.int .i64 fr2) ∧ w'.cell? ⟨b, o + m * 7 + 4, none⟩ = some (.int .i64 te2) ∧ w'.cell? ⟨b, o + m * 7 + 5, none⟩ = some (.int .i64 code2) ∧ w'.cell? ⟨b, o + m * 7 + 6, none⟩ = some (.int .i64 res2))) (first | exact ⟨HM3.out.cell, HR1.out, HR2.out⟩ | exact ⟨(HM3.out.below (below_drew_trans hb7)).cell, ⟨cell_keep (below_drew_trans hb7) HR1.out.1, cell_keep (below_drew_trans hb7) HR1.out.2.1, cell_keep (below_drew_trans hb7) HR1.out.2.2.1, cell_keep (below_drew_trans hb7) HR1.out.2.2.2.1, cell_keep (below_drew_trans hb7) HR1.out.2.2.2.2.1, cell_keep (below_drew_trans hb7) HR1.out.2.2.2.2.2.1, cell_keep (below_drew_trans hb7) HR1.out.2.2.2.2.2.2⟩, ⟨cell_keep (below_drew_trans hb7) HR2.out.1, cell_keep (below_drew_trans hb7) HR2.out.2.1, cell_keep (below_drew_trans hb7) HR2.out.2.2.1, cell_keep (below_drew_trans hb7) HR2.out.2.2.2.1, cell_keep (below_drew_trans hb7) HR2.out.2.2.2.2.1, cell_keep (below_drew_trans hb7) HR2.out.2.2.2.2.2.1, cell_keep (below_drew_trans hb7) HR2.out.2.2.2.2.2.2⟩⟩)
              (first
                | (go_at_call 87; (with_reducible refine (l09Overlap_any _ _ _ _ _ _ _ _ _ _ _ _ _ _ _ HF1.out HF2.out).mono ?_); rintro e w7 ⟨rfl, hb7⟩; rw [qo])
                | (go_at_call 86; (with_reducible refine (l01Bit_any _ _).mono ?_); rintro e w' ⟨rfl, rfl⟩))
            have HB5 := Lib.hid (below_trans HB3.out (below_drew_trans hb7))
            have HM5 := Lib.hid (HM3.out.below (below_drew_trans hb7))
            clear hb7
            go_wp2
            go_roundw
            case rel => exact ⟨m + 1, q + 1, by omega, by go_num, by go_num, HQ.out, HM5.out, HB5.out⟩
            case measure => simp [intOf]; omega
        · have hge : ¬ (m : Int) < k := by omega
          have HQ : Hid (q = fwd (cs.take (k + 1))) := by
            unfold Hid; rw [HTK1.out, fwd_app]; have h := HCQ.out; rw [show m = k from by omega] at h; exact h
          go_wp2
          go_roundw
          case rel => exact ⟨k + 1, by omega, by go_num, by rw [HQ.out], HM3.out, HB3.out⟩
          case measure => simp [intOf]; omega
    · have hge : ¬ (k : Int) < cs.length := by omega
      have HE : Hid (cs.take k = cs) := by unfold Hid; exact List.take_of_length_le (by omega)
      go_wp2
      go_ret2
      exact ⟨by rw [HE.out]; rfl, HB.out⟩
end Go.Proofs.Ytiogebflfnicgaa
