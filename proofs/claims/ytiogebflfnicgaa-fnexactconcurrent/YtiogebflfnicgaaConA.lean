/-
  Histories (chapter 10): how many pairs of calls overlap; the program's Concurrent.
-/
import Derived.Test.YtiogebflfnicgaaMaV
import Derived.Test.YtiogebflfnicgaaMaW
import Derived.Test.YtiogebflfnicgaaHistA
import Derived.Test.YtiogebflfnicgaaBoxD
namespace Go.Proofs.Ytiogebflfnicgaa
open Go.RowKit

def ovC (x y : Cll) : Bool := ovB x.fr x.to y.fr y.to
theorem ovC_comm (x y : Cll) : ovC x y = ovC y x := by unfold ovC ovB; rw [Bool.and_comm]
def cntV (x : Cll) (l : List Cll) : Nat := (l.filter (ovC x)).length
/-- The program's way: each with those behind it. -/
def fwd : List Cll → Nat
  | [] => 0
  | x :: r => cntV x r + fwd r
theorem cntV_le (x : Cll) (l : List Cll) : cntV x l ≤ l.length := List.length_filter_le _ _
theorem cntV_cons (x y : Cll) (l : List Cll) : cntV x (y :: l) = (if ovC x y = true then 1 else 0) + cntV x l := by
  unfold cntV; rw [List.filter_cons]; split <;> simp <;> omega
theorem cntV_app (x y : Cll) (l : List Cll) : cntV x (l ++ [y]) = cntV x l + (if ovC x y = true then 1 else 0) := by
  unfold cntV; rw [List.filter_append, List.length_append, List.filter_cons]; split <;> simp
theorem fwd_le : ∀ l : List Cll, fwd l ≤ l.length * l.length
  | [] => Nat.zero_le _
  | x :: r => by
    have h := fwd_le r
    have h2 := cntV_le x r
    simp only [fwd, List.length_cons, Nat.add_mul, Nat.mul_add]
    omega
/-- The model's way: each with those ahead of it. -/
theorem fwd_app (x : Cll) : ∀ l : List Cll, fwd (l ++ [x]) = fwd l + cntV x l
  | [] => by simp [fwd, cntV]
  | y :: r => by
    have h := fwd_app x r
    simp only [List.cons_append, fwd]
    rw [h, cntV_app, cntV_cons, ovC_comm y x]
    omega
theorem fwd_bound {l : List Cll} (h : l.length ≤ 4096) : fwd l ≤ 16777216 := Nat.le_trans (fwd_le l) (Nat.le_trans (Nat.mul_le_mul h h) (by decide))
theorem dropC {α : Type} {l : List α} {k : Nat} {x : α} (h : l[k]? = some x) : l.drop k = x :: l.drop (k + 1) := by
  have hk : k < l.length := (List.getElem?_eq_some_iff.1 h).1
  rw [List.drop_eq_getElem_cons hk]
  congr 1
  have := List.getElem?_eq_getElem hk
  rw [this] at h
  exact Option.some.inj h
theorem takeC {α : Type} {l : List α} {k : Nat} {x : α} (h : l[k]? = some x) : l.take (k + 1) = l.take k ++ [x] := by rw [List.take_add_one, h]; rfl
theorem mach_long {zs : List Int} {ts : List Thd} {cs : List Cll} {clk stp : Int} (h : machB zs ts cs clk stp = true) : cs.length ≤ 4096 := by
  unfold machB callsB at h
  simp only [Bool.and_eq_true, decide_eq_true_eq] at h
  exact h.2.1.1
theorem one7v (th op arg fr te code res : Int) : (#[.int .i64 th, .int .i64 op, .int .i64 arg, .int .i64 fr, .int .i64 te, .int .i64 code, .int .i64 res] : Array Value).all (·.oneCell') = true := by simp [Value.oneCell']
/-- The rows behind the first so many. -/
theorem RdR.tail {w : World} {b o : Nat} {l : List Cll} (h : RdR Cll.cs w (some ⟨b, o, none⟩) l) (k : Nat) (hk : k < l.length) : RdR Cll.cs w (some ⟨b, o + k * 7, none⟩) (l.drop k) := by
  rcases h with rfl | ⟨b', o', e, hr⟩
  · exact .inl (by simp)
  · simp only [Option.some.injEq, Addr.mk.injEq, and_true] at e
    obtain ⟨rfl, rfl⟩ := e
    refine .inr ⟨b, o + k * 7, rfl, fun j v hv => ?_⟩
    have h2 : flatV Cll.cs l = flatV Cll.cs (l.take k) ++ flatV Cll.cs (l.drop k) := by
      unfold flatV; rw [← List.flatten_append, ← List.map_append, List.take_append_drop]
    have hlen : (flatV Cll.cs (l.take k)).length = k * 7 := by rw [flatV_len Cll.len, List.length_take, Nat.min_eq_left (by omega)]
    have := hr (k * 7 + j) v (by rw [h2, List.getElem?_append_right (by omega), hlen, Nat.add_sub_cancel_left]; exact hv)
    rw [← Nat.add_assoc] at this
    exact this

set_option maxHeartbeats 4000000 in
set_option maxRecDepth 100000 in
theorem implConcurrent_any (A T C : Option Addr) (ca ct : Nat) (zs : List Int) (ts : List Thd) (cs : List Cll) (clk stp : Int) (w : World) (hz : zs.length ≤ 1048576) (hA : Rd w A zs) (hT : RdR Thd.cs w T ts) (hC : RdR Cll.cs w C cs) :
    Calls Try.prog 35 #[.agg #[.slice A zs.length ca, .slice T ts.length ct, .int .i64 clk, .int .i64 stp, .slice C cs.length cs.length]] w fun e w' => e = .returned (.tuple #[.int .i64 (if machB zs ts cs clk stp = true then fwd cs else 0 : Nat), .int .i64 (if machB zs ts cs clk stp = true then 0 else 1)]) ∧ Below w.heap.size w w' := by
  have HA := Lib.hid hA; have HT := Lib.hid hT; have HC := Lib.hid hC; clear hA hT hC
  have HM0 := Lib.hid (BoxC.new 64 w #[.slice A zs.length ca, .slice T ts.length ct, .int .i64 clk, .int .i64 stp, .slice C cs.length cs.length])
  cases QM : machB zs ts cs clk stp
  · rw [if_neg (by simp), if_neg (by simp)]
    go_enter Try.func35, Try.ntmps35
    go_wp2_with fail
    refine (implMachineOK_any _ _ _ _ _ _ _ zs ts cs clk stp _ rfl hz (HA.out.below (below_alloc _ _)) (HT.out.below (below_alloc _ _)) (HC.out.below (below_alloc _ _))).mono ?_
    rintro e w1 ⟨rfl, hb⟩
    rw [QM]
    have HB := Lib.hid (below_trans (below_alloc _ _) hb)
    clear hb
    go_wp2
    go_ret2
    exact ⟨rfl, HB.out⟩
  have HLG := Lib.hid (mach_long QM)
  have HFB := Lib.hid (fwd_bound HLG.out)
  rw [if_pos rfl, if_pos rfl]
  go_enter Try.func35, Try.ntmps35
  go_wp2_with fail
  refine (implMachineOK_any _ _ _ _ _ _ _ zs ts cs clk stp _ rfl hz (HA.out.below (below_alloc _ _)) (HT.out.below (below_alloc _ _)) (HC.out.below (below_alloc _ _))).mono ?_
  rintro e w1 ⟨rfl, hb⟩
  rw [QM]
  have HB1 := Lib.hid (below_trans (below_alloc _ _) hb)
  have HM1 := Lib.hid (HM0.out.below hb)
  clear hb HM0
  have hm := HM1.out.cell
  go_wp2_with fail
  go_loopw [4, 15] (fun pv i wr => ∃ (k p : Nat), k ≤ cs.length ∧ i = .int .i64 k ∧ pv = .int .i64 p ∧ p + fwd (cs.drop k) = fwd cs ∧ BoxC 64 wr w.heap.size #[.slice A zs.length ca, .slice T ts.length ct, .int .i64 clk, .int .i64 stp, .slice C cs.length cs.length] ∧ Below w.heap.size w wr) (fun _ i _ => cs.length - (intOf i).toNat)
  case atStart => exact ⟨0, 0, Nat.zero_le _, rfl, rfl, by rw [List.drop_zero]; omega, HM1.out, HB1.out⟩
  case round =>
    clear hm HM1 HB1
    obtain ⟨k, p, hk, rfl, rfl, hsum, hmb, hbl⟩ := hrel
    have HB := Lib.hid hbl; have HS := Lib.hid hsum; have HM := Lib.hid hmb
    clear hbl hsum hmb
    have hm := HM.out.cell
    by_cases hlt : k < cs.length
    · have hlt' : (k : Int) < cs.length := by omega
      obtain ⟨x, hx⟩ : ∃ x, cs[k]? = some x := ⟨_, List.getElem?_eq_getElem hlt⟩
      obtain ⟨b, o, rfl, hrow⟩ := (HC.out.below HB.out).row Cll.len k x hx
      have HD := Lib.hid (dropC hx)
      clear hx
      obtain ⟨th, op, arg, fr, te, code, res⟩ := x
      have HRW : Hid (wr.rangeAt b (o + k * 7) [.int .i64 th, .int .i64 op, .int .i64 arg, .int .i64 fr, .int .i64 te, .int .i64 code, .int .i64 res]) := hrow
      clear hrow
      have HX := Lib.hid (BoxC.new 109 wr #[.int .i64 0, .int .i64 0, .int .i64 0, .int .i64 0, .int .i64 0, .int .i64 0, .int .i64 0])
      have hz0 : w.heap.size < wr.heap.size := HM.out.lt
      go_upto_region 7 with (first | (refine wpList_load_mid rfl 109 _ rfl b (o + k * 7) ?_ _ _ HRW.out Try.underlying109 rfl info_iCall ?_; rfl) | (refine wpList_store_row rfl 109 _ _ rfl wr.heap.size _ rfl rfl 109 _ HX.out info_iCall rfl (one7v _ _ _ _ _ _ _) ?_))
      have HX2 := Lib.hid (HX.out.mrow #[.int .i64 th, .int .i64 op, .int .i64 arg, .int .i64 fr, .int .i64 te, .int .i64 code, .int .i64 res])
      have hbx : Below wr.heap.size wr ((wr.alloc (.cells #[.int .i64 0, .int .i64 0, .int .i64 0, .int .i64 0, .int .i64 0, .int .i64 0, .int .i64 0] 109)).setRow wr.heap.size #[.int .i64 th, .int .i64 op, .int .i64 arg, .int .i64 fr, .int .i64 te, .int .i64 code, .int .i64 res]) := below_setRow (below_alloc wr (.cells #[.int .i64 0, .int .i64 0, .int .i64 0, .int .i64 0, .int .i64 0, .int .i64 0, .int .i64 0] 109)) (Nat.le_refl _) #[.int .i64 th, .int .i64 op, .int .i64 arg, .int .i64 fr, .int .i64 te, .int .i64 code, .int .i64 res]
      have HM2 := Lib.hid (HM.out.below hbx)
      have HB2 := Lib.hid (below_trans HB.out hbx)
      generalize (wr.alloc (.cells #[.int .i64 0, .int .i64 0, .int .i64 0, .int .i64 0, .int .i64 0, .int .i64 0, .int .i64 0] 109)).setRow wr.heap.size #[.int .i64 th, .int .i64 op, .int .i64 arg, .int .i64 fr, .int .i64 te, .int .i64 code, .int .i64 res] = w2 at HX2 HM2 HB2 ⊢
      generalize wr.heap.size = kx at HX2 hz0 ⊢
      clear HX HB HRW HM hm hbx
      have hm := HM2.out.cell
      have e1 : IntKind.i64.wrap ((k : Int) + 1) = (k : Int) + 1 := IntWalk.i64_in _ (by have := HLG.out; omega)
      obtain ⟨dl, hdl⟩ : ∃ dl, cs.drop (k + 1) = dl := ⟨_, rfl⟩
      have hdn : dl.length = cs.length - (k + 1) := by rw [← hdl, List.length_drop]
      have HPB : Hid (p ≤ 16777216) := by unfold Hid; have := HFB.out; have := HS.out; omega
      have HNX : Hid (p + cntV ⟨th, op, arg, fr, te, code, res⟩ dl + fwd (cs.drop (k + 1)) = fwd cs) := by
        unfold Hid
        have h1 := HS.out
        rw [HD.out, hdl] at h1
        simp only [fwd] at h1
        rw [hdl]; omega
      have HDN := Lib.hid hdn
      by_cases hlast : cs.length = k + 1
      · have hTL : RdR Cll.cs w (some ⟨b, o, none⟩) dl := .inl (List.eq_nil_of_length_eq_zero (by rw [hdn]; omega))
        have hq : (cs.length = k + 1) = True := eq_true hlast
        have HLT := Lib.hid hlast
        clear hlast hdn
        have HTL := Lib.hid hTL
        clear hTL
        go_wp2_with fail
        obtain ⟨n, hn⟩ : ∃ n, cs.length - (k + 1) = n := ⟨_, rfl⟩
        rw [hn]
        have HNN : Hid (dl.length = n) := by unfold Hid; rw [HDN.out, hn]
        have HN4 : Hid (n ≤ 4096) := by unfold Hid; have := HLG.out; omega
        clear hn
        go_loopw [4, 26] (fun pv j wr => ∃ (m q : Nat), m ≤ n ∧ j = .int .i64 m ∧ pv = .int .i64 q ∧ q = p + cntV ⟨th, op, arg, fr, te, code, res⟩ (dl.take m) ∧ BoxC 109 wr kx #[.int .i64 th, .int .i64 op, .int .i64 arg, .int .i64 fr, .int .i64 te, .int .i64 code, .int .i64 res] ∧ BoxC 64 wr w.heap.size #[.slice A zs.length ca, .slice T ts.length ct, .int .i64 clk, .int .i64 stp, .slice (some ⟨b, o, none⟩) cs.length cs.length] ∧ Below w.heap.size w wr) (fun _ j _ => n - (intOf j).toNat)
        case atStart => exact ⟨0, p, Nat.zero_le _, rfl, rfl, by simp [cntV], HX2.out, HM2.out, HB2.out⟩
        case round =>
          clear hm
          obtain ⟨m, q, hm, rfl, rfl, hcq, hxb, hmb, hbl⟩ := hrel
          have HB3 := Lib.hid hbl; have HX3 := Lib.hid hxb; have HM3 := Lib.hid hmb; have HCQ := Lib.hid hcq
          clear hbl hxb hmb hcq
          have hqb : q ≤ 16781312 := by
            have h1 := HCQ.out; have h2 := cntV_le ⟨th, op, arg, fr, te, code, res⟩ (dl.take m); have h3 := HPB.out; have h4 := HN4.out
            rw [List.length_take] at h2; omega
          have hm4 : m ≤ 4096 := by have := HN4.out; omega
          have hk4 : k ≤ 4096 := by have := HLG.out; omega
          by_cases hmn : m < n
          · have hmn' : (m : Int) < n := by omega
            obtain ⟨y, hy⟩ : ∃ y, dl[m]? = some y := ⟨_, List.getElem?_eq_getElem (by rw [HNN.out]; exact hmn)⟩
            obtain ⟨b', o', heq, hrow⟩ := (HTL.out.below HB3.out).row Cll.len m y hy
            simp only [Option.some.injEq, Addr.mk.injEq, and_true] at heq
            obtain ⟨rfl, rfl⟩ := heq
            have HTK := Lib.hid (takeC hy)
            clear hy
            obtain ⟨th2, op2, arg2, fr2, te2, code2, res2⟩ := y
            have HRW : Hid (wr.rangeAt b (o + m * 7) [.int .i64 th2, .int .i64 op2, .int .i64 arg2, .int .i64 fr2, .int .i64 te2, .int .i64 code2, .int .i64 res2]) := hrow
            clear hrow
            have HY := Lib.hid (BoxC.new 109 wr #[.int .i64 0, .int .i64 0, .int .i64 0, .int .i64 0, .int .i64 0, .int .i64 0, .int .i64 0])
            have hz3 : kx < wr.heap.size := HX3.out.lt
            go_upto_region 10 with (first | (refine wpList_load_mid rfl 109 _ rfl b (o + m * 7) ?_ _ _ HRW.out Try.underlying109 rfl info_iCall ?_; rfl) | (refine wpList_store_row rfl 109 _ _ rfl wr.heap.size _ rfl rfl 109 _ HY.out info_iCall rfl (one7v _ _ _ _ _ _ _) ?_))
            have HY4 := Lib.hid (HY.out.mrow #[.int .i64 th2, .int .i64 op2, .int .i64 arg2, .int .i64 fr2, .int .i64 te2, .int .i64 code2, .int .i64 res2])
            have hbx : Below wr.heap.size wr ((wr.alloc (.cells #[.int .i64 0, .int .i64 0, .int .i64 0, .int .i64 0, .int .i64 0, .int .i64 0, .int .i64 0] 109)).setRow wr.heap.size #[.int .i64 th2, .int .i64 op2, .int .i64 arg2, .int .i64 fr2, .int .i64 te2, .int .i64 code2, .int .i64 res2]) := below_setRow (below_alloc wr (.cells #[.int .i64 0, .int .i64 0, .int .i64 0, .int .i64 0, .int .i64 0, .int .i64 0, .int .i64 0] 109)) (Nat.le_refl _) #[.int .i64 th2, .int .i64 op2, .int .i64 arg2, .int .i64 fr2, .int .i64 te2, .int .i64 code2, .int .i64 res2]
            have HM4 := Lib.hid (HM3.out.below hbx)
            have HX4 := Lib.hid (HX3.out.below hbx)
            have HB4 := Lib.hid (below_trans HB3.out hbx)
            generalize (wr.alloc (.cells #[.int .i64 0, .int .i64 0, .int .i64 0, .int .i64 0, .int .i64 0, .int .i64 0, .int .i64 0] 109)).setRow wr.heap.size #[.int .i64 th2, .int .i64 op2, .int .i64 arg2, .int .i64 fr2, .int .i64 te2, .int .i64 code2, .int .i64 res2] = w4 at HY4 HX4 HM4 HB4 ⊢
            generalize wr.heap.size = ky at HY4 hz3 ⊢
            clear HY HX3 HM3 HB3 HRW hbx
            have hx := HX4.out.cell; have hy := HY4.out.cell
            go_wp2_with fail
            refine (overlaps_any _ _ _ _ _ _ _ _ _ _ _ _ _ _ _).mono ?_
            rintro e w5 ⟨rfl, hb⟩
            have HB5 := Lib.hid (below_trans HB4.out hb)
            have HX5 := Lib.hid (HX4.out.below hb); have HM5 := Lib.hid (HM4.out.below hb)
            clear hb hx hy HY4 HX4 HM4 HB4
            have e2 : IntKind.i64.wrap ((q : Int) + 1) = (q : Int) + 1 := IntWalk.i64_in _ (by omega)
            cases qo : ovB fr te fr2 te2
            · have HQ : Hid (q = p + cntV ⟨th, op, arg, fr, te, code, res⟩ (dl.take (m + 1))) := by
                unfold Hid; rw [HTK.out, cntV_app, HCQ.out]; simp [ovC, qo]
              go_wp2
              go_roundw
              case rel => exact ⟨m + 1, q, by omega, by go_num, rfl, HQ.out, HX5.out, HM5.out, HB5.out⟩
              case measure => simp [intOf]; omega
            · have HQ : Hid (q + 1 = p + cntV ⟨th, op, arg, fr, te, code, res⟩ (dl.take (m + 1))) := by
                unfold Hid; rw [HTK.out, cntV_app, HCQ.out]; simp [ovC, qo]; omega
              go_wp2
              go_roundw
              case rel => exact ⟨m + 1, q + 1, by omega, by go_num, by go_num, HQ.out, HX5.out, HM5.out, HB5.out⟩
              case measure => simp [intOf]; omega
          · have hge : ¬ (m : Int) < n := by omega
            have HQ : Hid (q = p + cntV ⟨th, op, arg, fr, te, code, res⟩ dl) := by
              unfold Hid; have h := HCQ.out; rw [show m = dl.length from by rw [HNN.out]; omega, List.take_length] at h; exact h
            go_wp2
            go_roundw
            case rel => exact ⟨k + 1, q, by omega, by go_num, rfl, by rw [HQ.out]; exact HNX.out, HM3.out, HB3.out⟩
            case measure => simp [intOf]; omega
      · have hTL : RdR Cll.cs w (some ⟨b, o + (k + 1) * 7, none⟩) dl := by rw [← hdl]; exact RdR.tail HC.out (k + 1) (by omega)
        clear hdn
        have HTL := Lib.hid hTL
        clear hTL
        go_wp2_with fail
        obtain ⟨n, hn⟩ : ∃ n, cs.length - (k + 1) = n := ⟨_, rfl⟩
        rw [hn]
        have HNN : Hid (dl.length = n) := by unfold Hid; rw [HDN.out, hn]
        have HN4 : Hid (n ≤ 4096) := by unfold Hid; have := HLG.out; omega
        clear hn
        go_loopw [4, 26] (fun pv j wr => ∃ (m q : Nat), m ≤ n ∧ j = .int .i64 m ∧ pv = .int .i64 q ∧ q = p + cntV ⟨th, op, arg, fr, te, code, res⟩ (dl.take m) ∧ BoxC 109 wr kx #[.int .i64 th, .int .i64 op, .int .i64 arg, .int .i64 fr, .int .i64 te, .int .i64 code, .int .i64 res] ∧ BoxC 64 wr w.heap.size #[.slice A zs.length ca, .slice T ts.length ct, .int .i64 clk, .int .i64 stp, .slice (some ⟨b, o, none⟩) cs.length cs.length] ∧ Below w.heap.size w wr) (fun _ j _ => n - (intOf j).toNat)
        case atStart => exact ⟨0, p, Nat.zero_le _, rfl, rfl, by simp [cntV], HX2.out, HM2.out, HB2.out⟩
        case round =>
          clear hm
          obtain ⟨m, q, hm, rfl, rfl, hcq, hxb, hmb, hbl⟩ := hrel
          have HB3 := Lib.hid hbl; have HX3 := Lib.hid hxb; have HM3 := Lib.hid hmb; have HCQ := Lib.hid hcq
          clear hbl hxb hmb hcq
          have hqb : q ≤ 16781312 := by
            have h1 := HCQ.out; have h2 := cntV_le ⟨th, op, arg, fr, te, code, res⟩ (dl.take m); have h3 := HPB.out; have h4 := HN4.out
            rw [List.length_take] at h2; omega
          have hm4 : m ≤ 4096 := by have := HN4.out; omega
          have hk4 : k ≤ 4096 := by have := HLG.out; omega
          by_cases hmn : m < n
          · have hmn' : (m : Int) < n := by omega
            obtain ⟨y, hy⟩ : ∃ y, dl[m]? = some y := ⟨_, List.getElem?_eq_getElem (by rw [HNN.out]; exact hmn)⟩
            obtain ⟨b', o', heq, hrow⟩ := (HTL.out.below HB3.out).row Cll.len m y hy
            simp only [Option.some.injEq, Addr.mk.injEq, and_true] at heq
            obtain ⟨rfl, rfl⟩ := heq
            have HTK := Lib.hid (takeC hy)
            clear hy
            obtain ⟨th2, op2, arg2, fr2, te2, code2, res2⟩ := y
            have HRW : Hid (wr.rangeAt b (o + (k + 1) * 7 + m * 7) [.int .i64 th2, .int .i64 op2, .int .i64 arg2, .int .i64 fr2, .int .i64 te2, .int .i64 code2, .int .i64 res2]) := hrow
            clear hrow
            have HY := Lib.hid (BoxC.new 109 wr #[.int .i64 0, .int .i64 0, .int .i64 0, .int .i64 0, .int .i64 0, .int .i64 0, .int .i64 0])
            have hz3 : kx < wr.heap.size := HX3.out.lt
            go_upto_region 10 with (first | (refine wpList_load_mid rfl 109 _ rfl b (o + (k + 1) * 7 + m * 7) ?_ _ _ HRW.out Try.underlying109 rfl info_iCall ?_; rfl) | (refine wpList_store_row rfl 109 _ _ rfl wr.heap.size _ rfl rfl 109 _ HY.out info_iCall rfl (one7v _ _ _ _ _ _ _) ?_))
            have HY4 := Lib.hid (HY.out.mrow #[.int .i64 th2, .int .i64 op2, .int .i64 arg2, .int .i64 fr2, .int .i64 te2, .int .i64 code2, .int .i64 res2])
            have hbx : Below wr.heap.size wr ((wr.alloc (.cells #[.int .i64 0, .int .i64 0, .int .i64 0, .int .i64 0, .int .i64 0, .int .i64 0, .int .i64 0] 109)).setRow wr.heap.size #[.int .i64 th2, .int .i64 op2, .int .i64 arg2, .int .i64 fr2, .int .i64 te2, .int .i64 code2, .int .i64 res2]) := below_setRow (below_alloc wr (.cells #[.int .i64 0, .int .i64 0, .int .i64 0, .int .i64 0, .int .i64 0, .int .i64 0, .int .i64 0] 109)) (Nat.le_refl _) #[.int .i64 th2, .int .i64 op2, .int .i64 arg2, .int .i64 fr2, .int .i64 te2, .int .i64 code2, .int .i64 res2]
            have HM4 := Lib.hid (HM3.out.below hbx)
            have HX4 := Lib.hid (HX3.out.below hbx)
            have HB4 := Lib.hid (below_trans HB3.out hbx)
            generalize (wr.alloc (.cells #[.int .i64 0, .int .i64 0, .int .i64 0, .int .i64 0, .int .i64 0, .int .i64 0, .int .i64 0] 109)).setRow wr.heap.size #[.int .i64 th2, .int .i64 op2, .int .i64 arg2, .int .i64 fr2, .int .i64 te2, .int .i64 code2, .int .i64 res2] = w4 at HY4 HX4 HM4 HB4 ⊢
            generalize wr.heap.size = ky at HY4 hz3 ⊢
            clear HY HX3 HM3 HB3 HRW hbx
            have hx := HX4.out.cell; have hy := HY4.out.cell
            go_wp2_with fail
            refine (overlaps_any _ _ _ _ _ _ _ _ _ _ _ _ _ _ _).mono ?_
            rintro e w5 ⟨rfl, hb⟩
            have HB5 := Lib.hid (below_trans HB4.out hb)
            have HX5 := Lib.hid (HX4.out.below hb); have HM5 := Lib.hid (HM4.out.below hb)
            clear hb hx hy HY4 HX4 HM4 HB4
            have e2 : IntKind.i64.wrap ((q : Int) + 1) = (q : Int) + 1 := IntWalk.i64_in _ (by omega)
            cases qo : ovB fr te fr2 te2
            · have HQ : Hid (q = p + cntV ⟨th, op, arg, fr, te, code, res⟩ (dl.take (m + 1))) := by
                unfold Hid; rw [HTK.out, cntV_app, HCQ.out]; simp [ovC, qo]
              go_wp2
              go_roundw
              case rel => exact ⟨m + 1, q, by omega, by go_num, rfl, HQ.out, HX5.out, HM5.out, HB5.out⟩
              case measure => simp [intOf]; omega
            · have HQ : Hid (q + 1 = p + cntV ⟨th, op, arg, fr, te, code, res⟩ (dl.take (m + 1))) := by
                unfold Hid; rw [HTK.out, cntV_app, HCQ.out]; simp [ovC, qo]; omega
              go_wp2
              go_roundw
              case rel => exact ⟨m + 1, q + 1, by omega, by go_num, by go_num, HQ.out, HX5.out, HM5.out, HB5.out⟩
              case measure => simp [intOf]; omega
          · have hge : ¬ (m : Int) < n := by omega
            have HQ : Hid (q = p + cntV ⟨th, op, arg, fr, te, code, res⟩ dl) := by
              unfold Hid; have h := HCQ.out; rw [show m = dl.length from by rw [HNN.out]; omega, List.take_length] at h; exact h
            go_wp2
            go_roundw
            case rel => exact ⟨k + 1, q, by omega, by go_num, rfl, by rw [HQ.out]; exact HNX.out, HM3.out, HB3.out⟩
            case measure => simp [intOf]; omega
    · have hge : ¬ (k : Int) < cs.length := by omega
      have HP : Hid (p = fwd cs) := by unfold Hid; have h := HS.out; rw [show k = cs.length from by omega, List.drop_length] at h; simpa [fwd] using h
      go_wp2
      go_ret2
      exact ⟨by rw [← HP.out]; rfl, HB.out⟩
end Go.Proofs.Ytiogebflfnicgaa
