/-
  Lists of threads and of calls compared.
-/
import Derived.Test.YtiogebflfnicgaaMach
import Derived.Test.YtiogebflfnicgaaThEq
namespace Go.Proofs.Ytiogebflfnicgaa
open Go.RowKit

theorem eqTh_ne (id st op arg pc til : Int) (per can : Bool) (r0 r1 r2 r3 r4 code res : Int) (id2 st2 op2 arg2 pc2 til2 : Int) (per2 can2 : Bool) (r02 r12 r22 r32 r42 code2 res2 : Int) (h : (⟨id, st, op, arg, pc, til, per, can, r0, r1, r2, r3, r4, code, res⟩ : Thd) ≠ ⟨id2, st2, op2, arg2, pc2, til2, per2, can2, r02, r12, r22, r32, r42, code2, res2⟩) : eqTh id st op arg pc til per can r0 r1 r2 r3 r4 code res id2 st2 op2 arg2 pc2 til2 per2 can2 r02 r12 r22 r32 r42 code2 res2 = false := by
  cases e : eqTh id st op arg pc til per can r0 r1 r2 r3 r4 code res id2 st2 op2 arg2 pc2 til2 per2 can2 r02 r12 r22 r32 r42 code2 res2
  · rfl
  · refine absurd ?_ h
    simp [eqTh, eqRegs] at e
    simp_all
deriving instance DecidableEq for Thd
deriving instance DecidableEq for Cll
def deq {α : Type} [DecidableEq α] (l r : List α) : Bool := decide (l = r)
theorem deq_yes {α : Type} [DecidableEq α] {l r : List α} (h : l = r) : deq l r = true := decide_eq_true h
theorem deq_no {α : Type} [DecidableEq α] {l r : List α} (h : ¬ l = r) : deq l r = false := decide_eq_false h
def eqC (th op arg fr te code res th2 op2 arg2 fr2 te2 code2 res2 : Int) : Bool := th == th2 && op == op2 && arg == arg2 && fr == fr2 && te == te2 && code == code2 && res == res2
theorem eqC_refl (th op arg fr te code res : Int) : eqC th op arg fr te code res th op arg fr te code res = true := by simp [eqC]
theorem eqC_ne {th op arg fr te code res th2 op2 arg2 fr2 te2 code2 res2 : Int} (h : (⟨th, op, arg, fr, te, code, res⟩ : Cll) ≠ ⟨th2, op2, arg2, fr2, te2, code2, res2⟩) : eqC th op arg fr te code res th2 op2 arg2 fr2 te2 code2 res2 = false := by
  cases e : eqC th op arg fr te code res th2 op2 arg2 fr2 te2 code2 res2
  · rfl
  · refine absurd ?_ h
    simp [eqC] at e
    simp_all
theorem run_eq_call (th op arg fr te code res th2 op2 arg2 fr2 te2 code2 res2 : Int) (w : World) :
    (Op.equalIn 10000 109 (.agg #[.int .i64 th, .int .i64 op, .int .i64 arg, .int .i64 fr, .int .i64 te, .int .i64 code, .int .i64 res]) (.agg #[.int .i64 th2, .int .i64 op2, .int .i64 arg2, .int .i64 fr2, .int .i64 te2, .int .i64 code2, .int .i64 res2])).run Try.prog w = .ok (eqC th op arg fr te code res th2 op2 arg2 fr2 te2 code2 res2) w := by
  have hq : Try.prog.stoodInHeld 109 = false := by kernel_rfl
  rw [show (10000 : Nat) = 9999 + 1 from rfl, run_equalIn_struct w 9999 109 _ _ (by kernel_rfl) hq]
  simp [go_sem, Op.eqFields, Program.fieldsOf, Try.underlying109, part, isAgg, run_underlying Try.underlying3]
  unfold eqC
  refine if h0 : th = th2 then ?_ else (by simp [h0])
  refine if h1 : op = op2 then ?_ else (by simp [h1])
  refine if h2 : arg = arg2 then ?_ else (by simp [h2])
  refine if h3 : fr = fr2 then ?_ else (by simp [h3])
  refine if h4 : te = te2 then ?_ else (by simp [h4])
  refine if h5 : code = code2 then ?_ else (by simp [h5])
  refine if h6 : res = res2 then ?_ else (by simp [h6])
  simp [h0, h1, h2, h3, h4, h5, h6]
theorem run_neq_call (th op arg fr te code res th2 op2 arg2 fr2 te2 code2 res2 : Int) (w : World) :
    (binOp .neq 109 (.agg #[.int .i64 th, .int .i64 op, .int .i64 arg, .int .i64 fr, .int .i64 te, .int .i64 code, .int .i64 res]) (.agg #[.int .i64 th2, .int .i64 op2, .int .i64 arg2, .int .i64 fr2, .int .i64 te2, .int .i64 code2, .int .i64 res2])).run Try.prog w = .ok (.bool (!eqC th op arg fr te code res th2 op2 arg2 fr2 te2 code2 res2)) w := by
  rw [run_neq_struct, run_eq_call]; rfl

set_option maxHeartbeats 4000000 in
set_option maxRecDepth 100000 in
theorem l08Calls_any (A B : Option Addr) (c d : Nat) (l r : List Cll) (w : World) (hn : l.length ≤ 1048576) (hm : r.length ≤ 1048576) (hA : RdR Cll.cs w A l) (hB : RdR Cll.cs w B r) :
    Calls Try.prog 75 #[.slice A l.length c, .slice B r.length d] w fun e w' => e = .returned (.bool (deq l r)) ∧ Below w.heap.size w w' := by
  have HA := Lib.hid hA; have HBB := Lib.hid hB; clear hA hB
  by_cases hl : l.length = r.length
  rotate_left
  · have hl' : ((l.length : Int) != (r.length : Int)) = true := by simp; omega
    have HN : Hid (deq l r = false) := by
      apply deq_no
      rintro rfl
      exact hl rfl
    clear hl
    go_enter Try.func75, Try.ntmps75
    go_wp2
    go_ret
    exact ⟨ret_bool HN.out.symm, Below.refl _ _⟩
  have hl' : ((l.length : Int) != (r.length : Int)) = false := by simp [hl]
  have HL := Lib.hid hl; clear hl
  go_enter Try.func75, Try.ntmps75
  go_wp2
  go_loopw [5] (fun i wr => ∃ k : Nat, k ≤ l.length ∧ i = .int .i64 k ∧ (∀ j, j < k → l[j]? = r[j]?) ∧ Below w.heap.size w wr) (fun i _ => l.length - (intOf i).toNat)
  case atStart => exact ⟨0, Nat.zero_le _, rfl, fun j hj => absurd hj (by omega), Below.refl _ _⟩
  case round =>
    obtain ⟨k, hk, rfl, hsame, hbl⟩ := hrel
    have HS := Lib.hid hsame; have HB' := Lib.hid hbl
    clear hsame hbl
    by_cases hlt : k < l.length
    · have hlt' : (k : Int) < l.length := by omega
      have hlr : k < r.length := by have := HL.out; omega
      obtain ⟨x, hx⟩ : ∃ x, l[k]? = some x := ⟨_, List.getElem?_eq_getElem hlt⟩
      obtain ⟨y, hy⟩ : ∃ y, r[k]? = some y := ⟨_, List.getElem?_eq_getElem hlr⟩
      obtain ⟨b, o, rfl, hr1⟩ := (HA.out.below HB'.out).row Cll.len k x hx
      obtain ⟨b2, o2, rfl, hr2⟩ := (HBB.out.below HB'.out).row Cll.len k y hy
      have HX := Lib.hid hx; have HY := Lib.hid hy
      clear hx hy
      obtain ⟨th, op, arg, fr, te, code, res⟩ := x
      obtain ⟨th2, op2, arg2, fr2, te2, code2, res2⟩ := y
      have HC := Lib.hid (And.intro (cellsCall _ _ _ _ _ _ _ hr1) (cellsCall _ _ _ _ _ _ _ hr2))
      clear hr1 hr2
      by_cases hxy : (⟨th, op, arg, fr, te, code, res⟩ : Cll) = ⟨th2, op2, arg2, fr2, te2, code2, res2⟩
      · have e0 : th = th2 := congrArg Cll.th hxy
        have e1 : op = op2 := congrArg Cll.op hxy
        have e2 : arg = arg2 := congrArg Cll.arg hxy
        have e3 : fr = fr2 := congrArg Cll.fr hxy
        have e4 : te = te2 := congrArg Cll.to hxy
        have e5 : code = code2 := congrArg Cll.code hxy
        have e6 : res = res2 := congrArg Cll.res hxy
        subst e0 e1 e2 e3 e4 e5 e6
        have hneq : ∀ wx : World, (binOp .neq 109 (.agg #[.int .i64 th, .int .i64 op, .int .i64 arg, .int .i64 fr, .int .i64 te, .int .i64 code, .int .i64 res]) (.agg #[.int .i64 th, .int .i64 op, .int .i64 arg, .int .i64 fr, .int .i64 te, .int .i64 code, .int .i64 res])).run Try.prog wx = .ok (.bool false) wx := fun wx => by rw [run_neq_call, eqC_refl]; rfl
        have HS2 : Hid (∀ j, j < k + 1 → l[j]? = r[j]?) := by
          unfold Hid
          intro j hj
          by_cases e : j < k
          · exact HS.out j e
          · obtain rfl : j = k := by omega
            rw [HX.out, HY.out]
        clear hxy
        go_wp2_with fail
        go_region_held3 (fun w' => (w'.cell? ⟨b, o + k * 7, none⟩ = some (.int .i64 th) ∧ w'.cell? ⟨b, o + k * 7 + 1, none⟩ = some (.int .i64 op) ∧ w'.cell? ⟨b, o + k * 7 + 2, none⟩ = some (.int .i64 arg) ∧ w'.cell? ⟨b, o + k * 7 + 3, none⟩ = some (.int .i64 fr) ∧ w'.cell? ⟨b, o + k * 7 + 4, none⟩ = some (.int .i64 te) ∧ w'.cell? ⟨b, o + k * 7 + 5, none⟩ = some (.int .i64 code) ∧ w'.cell? ⟨b, o + k * 7 + 6, none⟩ = some (.int .i64 res)) ∧ (w'.cell? ⟨b2, o2 + k * 7, none⟩ = some (.int .i64 th) ∧ w'.cell? ⟨b2, o2 + k * 7 + 1, none⟩ = some (.int .i64 op) ∧ w'.cell? ⟨b2, o2 + k * 7 + 2, none⟩ = some (.int .i64 arg) ∧ w'.cell? ⟨b2, o2 + k * 7 + 3, none⟩ = some (.int .i64 fr) ∧ w'.cell? ⟨b2, o2 + k * 7 + 4, none⟩ = some (.int .i64 te) ∧ w'.cell? ⟨b2, o2 + k * 7 + 5, none⟩ = some (.int .i64 code) ∧ w'.cell? ⟨b2, o2 + k * 7 + 6, none⟩ = some (.int .i64 res))) (exact HC.out) (fail)
        go_wp2
        go_roundw
        case rel => exact ⟨k + 1, by omega, by go_num, HS2.out, HB'.out.drew⟩
        case measure => simp [intOf]; omega
      · have hq := eqC_ne hxy
        have hneq : ∀ wx : World, (binOp .neq 109 (.agg #[.int .i64 th, .int .i64 op, .int .i64 arg, .int .i64 fr, .int .i64 te, .int .i64 code, .int .i64 res]) (.agg #[.int .i64 th2, .int .i64 op2, .int .i64 arg2, .int .i64 fr2, .int .i64 te2, .int .i64 code2, .int .i64 res2])).run Try.prog wx = .ok (.bool true) wx := fun wx => by rw [run_neq_call, hq]; rfl
        have HN : Hid (deq l r = false) := by
          apply deq_no
          rintro rfl
          have := HX.out.symm.trans HY.out
          exact hxy (Option.some.inj this)
        clear hxy hq
        go_wp2_with fail
        go_region_held3 (fun w' => (w'.cell? ⟨b, o + k * 7, none⟩ = some (.int .i64 th) ∧ w'.cell? ⟨b, o + k * 7 + 1, none⟩ = some (.int .i64 op) ∧ w'.cell? ⟨b, o + k * 7 + 2, none⟩ = some (.int .i64 arg) ∧ w'.cell? ⟨b, o + k * 7 + 3, none⟩ = some (.int .i64 fr) ∧ w'.cell? ⟨b, o + k * 7 + 4, none⟩ = some (.int .i64 te) ∧ w'.cell? ⟨b, o + k * 7 + 5, none⟩ = some (.int .i64 code) ∧ w'.cell? ⟨b, o + k * 7 + 6, none⟩ = some (.int .i64 res)) ∧ (w'.cell? ⟨b2, o2 + k * 7, none⟩ = some (.int .i64 th2) ∧ w'.cell? ⟨b2, o2 + k * 7 + 1, none⟩ = some (.int .i64 op2) ∧ w'.cell? ⟨b2, o2 + k * 7 + 2, none⟩ = some (.int .i64 arg2) ∧ w'.cell? ⟨b2, o2 + k * 7 + 3, none⟩ = some (.int .i64 fr2) ∧ w'.cell? ⟨b2, o2 + k * 7 + 4, none⟩ = some (.int .i64 te2) ∧ w'.cell? ⟨b2, o2 + k * 7 + 5, none⟩ = some (.int .i64 code2) ∧ w'.cell? ⟨b2, o2 + k * 7 + 6, none⟩ = some (.int .i64 res2))) (exact HC.out) (fail)
        go_wp2
        go_ret
        exact ⟨ret_bool HN.out.symm, HB'.out.drew⟩
    · have hge : ¬ (k : Int) < l.length := by omega
      have HN : Hid (deq l r = true) := by
        apply deq_yes
        apply List.ext_getElem?
        intro j
        by_cases hj : j < l.length
        · exact HS.out j (by omega)
        · rw [List.getElem?_eq_none (by omega), List.getElem?_eq_none (by have := HL.out; omega)]
      go_wp2
      go_ret
      exact ⟨ret_bool HN.out.symm, HB'.out⟩

set_option maxHeartbeats 4000000 in
set_option maxRecDepth 100000 in
theorem eqRowsC_any (A B : Option Addr) (c d : Nat) (l r : List Cll) (w : World) (hn : l.length ≤ 1048576) (hm : r.length ≤ 1048576) (hA : RdR Cll.cs w A l) (hB : RdR Cll.cs w B r) :
    Calls Try.prog 82 #[.slice A l.length c, .slice B r.length d] w fun e w' => e = .returned (.bool (deq l r)) ∧ Below w.heap.size w w' := by
  have HA := Lib.hid hA; have HBB := Lib.hid hB; clear hA hB
  by_cases hl : l.length = r.length
  rotate_left
  · have hl' : ((l.length : Int) != (r.length : Int)) = true := by simp; omega
    have HN : Hid (deq l r = false) := by
      apply deq_no
      rintro rfl
      exact hl rfl
    clear hl
    go_enter Try.func82, Try.ntmps82
    go_wp2
    go_ret
    exact ⟨ret_bool HN.out.symm, Below.refl _ _⟩
  have hl' : ((l.length : Int) != (r.length : Int)) = false := by simp [hl]
  have HL := Lib.hid hl; clear hl
  go_enter Try.func82, Try.ntmps82
  go_wp2
  go_loopw [13] (fun i wr => ∃ k : Nat, k ≤ l.length ∧ i = .int .i64 k ∧ (∀ j, j < k → l[j]? = r[j]?) ∧ Below w.heap.size w wr) (fun i _ => l.length - (intOf i).toNat)
  case atStart => exact ⟨0, Nat.zero_le _, rfl, fun j hj => absurd hj (by omega), Below.refl _ _⟩
  case round =>
    obtain ⟨k, hk, rfl, hsame, hbl⟩ := hrel
    have HS := Lib.hid hsame; have HB' := Lib.hid hbl
    clear hsame hbl
    by_cases hlt : k < l.length
    · have hlt' : (k : Int) < l.length := by omega
      have hlr : k < r.length := by have := HL.out; omega
      obtain ⟨x, hx⟩ : ∃ x, l[k]? = some x := ⟨_, List.getElem?_eq_getElem hlt⟩
      obtain ⟨y, hy⟩ : ∃ y, r[k]? = some y := ⟨_, List.getElem?_eq_getElem hlr⟩
      obtain ⟨b, o, rfl, hr1⟩ := (HA.out.below HB'.out).row Cll.len k x hx
      obtain ⟨b2, o2, rfl, hr2⟩ := (HBB.out.below HB'.out).row Cll.len k y hy
      have HX := Lib.hid hx; have HY := Lib.hid hy
      clear hx hy
      obtain ⟨th, op, arg, fr, te, code, res⟩ := x
      obtain ⟨th2, op2, arg2, fr2, te2, code2, res2⟩ := y
      have HC := Lib.hid (And.intro (cellsCall _ _ _ _ _ _ _ hr1) (cellsCall _ _ _ _ _ _ _ hr2))
      clear hr1 hr2
      by_cases hxy : (⟨th, op, arg, fr, te, code, res⟩ : Cll) = ⟨th2, op2, arg2, fr2, te2, code2, res2⟩
      · have e0 : th = th2 := congrArg Cll.th hxy
        have e1 : op = op2 := congrArg Cll.op hxy
        have e2 : arg = arg2 := congrArg Cll.arg hxy
        have e3 : fr = fr2 := congrArg Cll.fr hxy
        have e4 : te = te2 := congrArg Cll.to hxy
        have e5 : code = code2 := congrArg Cll.code hxy
        have e6 : res = res2 := congrArg Cll.res hxy
        subst e0 e1 e2 e3 e4 e5 e6
        have hneq : ∀ wx : World, (binOp .neq 109 (.agg #[.int .i64 th, .int .i64 op, .int .i64 arg, .int .i64 fr, .int .i64 te, .int .i64 code, .int .i64 res]) (.agg #[.int .i64 th, .int .i64 op, .int .i64 arg, .int .i64 fr, .int .i64 te, .int .i64 code, .int .i64 res])).run Try.prog wx = .ok (.bool false) wx := fun wx => by rw [run_neq_call, eqC_refl]; rfl
        have HS2 : Hid (∀ j, j < k + 1 → l[j]? = r[j]?) := by
          unfold Hid
          intro j hj
          by_cases e : j < k
          · exact HS.out j e
          · obtain rfl : j = k := by omega
            rw [HX.out, HY.out]
        clear hxy
        go_wp2_with fail
        go_region_held3 (fun w' => (w'.cell? ⟨b, o + k * 7, none⟩ = some (.int .i64 th) ∧ w'.cell? ⟨b, o + k * 7 + 1, none⟩ = some (.int .i64 op) ∧ w'.cell? ⟨b, o + k * 7 + 2, none⟩ = some (.int .i64 arg) ∧ w'.cell? ⟨b, o + k * 7 + 3, none⟩ = some (.int .i64 fr) ∧ w'.cell? ⟨b, o + k * 7 + 4, none⟩ = some (.int .i64 te) ∧ w'.cell? ⟨b, o + k * 7 + 5, none⟩ = some (.int .i64 code) ∧ w'.cell? ⟨b, o + k * 7 + 6, none⟩ = some (.int .i64 res)) ∧ (w'.cell? ⟨b2, o2 + k * 7, none⟩ = some (.int .i64 th) ∧ w'.cell? ⟨b2, o2 + k * 7 + 1, none⟩ = some (.int .i64 op) ∧ w'.cell? ⟨b2, o2 + k * 7 + 2, none⟩ = some (.int .i64 arg) ∧ w'.cell? ⟨b2, o2 + k * 7 + 3, none⟩ = some (.int .i64 fr) ∧ w'.cell? ⟨b2, o2 + k * 7 + 4, none⟩ = some (.int .i64 te) ∧ w'.cell? ⟨b2, o2 + k * 7 + 5, none⟩ = some (.int .i64 code) ∧ w'.cell? ⟨b2, o2 + k * 7 + 6, none⟩ = some (.int .i64 res))) (exact HC.out) (fail)
        go_wp2
        go_roundw
        case rel => exact ⟨k + 1, by omega, by go_num, HS2.out, HB'.out.drew⟩
        case measure => simp [intOf]; omega
      · have hq := eqC_ne hxy
        have hneq : ∀ wx : World, (binOp .neq 109 (.agg #[.int .i64 th, .int .i64 op, .int .i64 arg, .int .i64 fr, .int .i64 te, .int .i64 code, .int .i64 res]) (.agg #[.int .i64 th2, .int .i64 op2, .int .i64 arg2, .int .i64 fr2, .int .i64 te2, .int .i64 code2, .int .i64 res2])).run Try.prog wx = .ok (.bool true) wx := fun wx => by rw [run_neq_call, hq]; rfl
        have HN : Hid (deq l r = false) := by
          apply deq_no
          rintro rfl
          have := HX.out.symm.trans HY.out
          exact hxy (Option.some.inj this)
        clear hxy hq
        go_wp2_with fail
        go_region_held3 (fun w' => (w'.cell? ⟨b, o + k * 7, none⟩ = some (.int .i64 th) ∧ w'.cell? ⟨b, o + k * 7 + 1, none⟩ = some (.int .i64 op) ∧ w'.cell? ⟨b, o + k * 7 + 2, none⟩ = some (.int .i64 arg) ∧ w'.cell? ⟨b, o + k * 7 + 3, none⟩ = some (.int .i64 fr) ∧ w'.cell? ⟨b, o + k * 7 + 4, none⟩ = some (.int .i64 te) ∧ w'.cell? ⟨b, o + k * 7 + 5, none⟩ = some (.int .i64 code) ∧ w'.cell? ⟨b, o + k * 7 + 6, none⟩ = some (.int .i64 res)) ∧ (w'.cell? ⟨b2, o2 + k * 7, none⟩ = some (.int .i64 th2) ∧ w'.cell? ⟨b2, o2 + k * 7 + 1, none⟩ = some (.int .i64 op2) ∧ w'.cell? ⟨b2, o2 + k * 7 + 2, none⟩ = some (.int .i64 arg2) ∧ w'.cell? ⟨b2, o2 + k * 7 + 3, none⟩ = some (.int .i64 fr2) ∧ w'.cell? ⟨b2, o2 + k * 7 + 4, none⟩ = some (.int .i64 te2) ∧ w'.cell? ⟨b2, o2 + k * 7 + 5, none⟩ = some (.int .i64 code2) ∧ w'.cell? ⟨b2, o2 + k * 7 + 6, none⟩ = some (.int .i64 res2))) (exact HC.out) (fail)
        go_wp2
        go_ret
        exact ⟨ret_bool HN.out.symm, HB'.out.drew⟩
    · have hge : ¬ (k : Int) < l.length := by omega
      have HN : Hid (deq l r = true) := by
        apply deq_yes
        apply List.ext_getElem?
        intro j
        by_cases hj : j < l.length
        · exact HS.out j (by omega)
        · rw [List.getElem?_eq_none (by omega), List.getElem?_eq_none (by have := HL.out; omega)]
      go_wp2
      go_ret
      exact ⟨ret_bool HN.out.symm, HB'.out⟩

set_option maxHeartbeats 4000000 in
set_option maxRecDepth 100000 in
theorem eqRowsT_any (A B : Option Addr) (c d : Nat) (l r : List Thd) (w : World) (hn : l.length ≤ 1048576) (hm : r.length ≤ 1048576) (hA : RdR Thd.cs w A l) (hB : RdR Thd.cs w B r) :
    Calls Try.prog 81 #[.slice A l.length c, .slice B r.length d] w fun e w' => e = .returned (.bool (deq l r)) ∧ Below w.heap.size w w' := by
  have HA := Lib.hid hA; have HBB := Lib.hid hB; clear hA hB
  by_cases hl : l.length = r.length
  rotate_left
  · have hl' : ((l.length : Int) != (r.length : Int)) = true := by simp; omega
    have HN : Hid (deq l r = false) := by
      apply deq_no
      rintro rfl
      exact hl rfl
    clear hl
    go_enter Try.func81, Try.ntmps81
    go_wp2
    go_ret
    exact ⟨ret_bool HN.out.symm, Below.refl _ _⟩
  have hl' : ((l.length : Int) != (r.length : Int)) = false := by simp [hl]
  have HL := Lib.hid hl; clear hl
  go_enter Try.func81, Try.ntmps81
  go_wp2
  go_loopw [13] (fun i wr => ∃ k : Nat, k ≤ l.length ∧ i = .int .i64 k ∧ (∀ j, j < k → l[j]? = r[j]?) ∧ Below w.heap.size w wr) (fun i _ => l.length - (intOf i).toNat)
  case atStart => exact ⟨0, Nat.zero_le _, rfl, fun j hj => absurd hj (by omega), Below.refl _ _⟩
  case round =>
    obtain ⟨k, hk, rfl, hsame, hbl⟩ := hrel
    have HS := Lib.hid hsame; have HB' := Lib.hid hbl
    clear hsame hbl
    by_cases hlt : k < l.length
    · have hlt' : (k : Int) < l.length := by omega
      have hlr : k < r.length := by have := HL.out; omega
      obtain ⟨x, hx⟩ : ∃ x, l[k]? = some x := ⟨_, List.getElem?_eq_getElem hlt⟩
      obtain ⟨y, hy⟩ : ∃ y, r[k]? = some y := ⟨_, List.getElem?_eq_getElem hlr⟩
      obtain ⟨b, o, rfl, hr1⟩ := (HA.out.below HB'.out).row Thd.len k x hx
      obtain ⟨b2, o2, rfl, hr2⟩ := (HBB.out.below HB'.out).row Thd.len k y hy
      have HX := Lib.hid hx; have HY := Lib.hid hy
      clear hx hy
      obtain ⟨id, st, op, arg, pc, til, per, can, r0, r1, r2, r3, r4, code, res⟩ := x
      obtain ⟨id2, st2, op2, arg2, pc2, til2, per2, can2, r02, r12, r22, r32, r42, code2, res2⟩ := y
      have HC := Lib.hid (And.intro (cellsThread _ _ _ _ _ _ _ _ _ _ _ _ _ _ _ hr1) (cellsThread _ _ _ _ _ _ _ _ _ _ _ _ _ _ _ hr2))
      clear hr1 hr2
      by_cases hxy : (⟨id, st, op, arg, pc, til, per, can, r0, r1, r2, r3, r4, code, res⟩ : Thd) = ⟨id2, st2, op2, arg2, pc2, til2, per2, can2, r02, r12, r22, r32, r42, code2, res2⟩
      · have e0 : id = id2 := congrArg Thd.id hxy
        have e1 : st = st2 := congrArg Thd.st hxy
        have e2 : op = op2 := congrArg Thd.op hxy
        have e3 : arg = arg2 := congrArg Thd.arg hxy
        have e4 : pc = pc2 := congrArg Thd.pc hxy
        have e5 : til = til2 := congrArg Thd.til hxy
        have e6 : per = per2 := congrArg Thd.per hxy
        have e7 : can = can2 := congrArg Thd.can hxy
        have e8 : r0 = r02 := congrArg Thd.r0 hxy
        have e9 : r1 = r12 := congrArg Thd.r1 hxy
        have e10 : r2 = r22 := congrArg Thd.r2 hxy
        have e11 : r3 = r32 := congrArg Thd.r3 hxy
        have e12 : r4 = r42 := congrArg Thd.r4 hxy
        have e13 : code = code2 := congrArg Thd.code hxy
        have e14 : res = res2 := congrArg Thd.res hxy
        subst e0 e1 e2 e3 e4 e5 e6 e7 e8 e9 e10 e11 e12 e13 e14
        have hneq : ∀ wx : World, (binOp .neq 103 (.agg #[.int .i64 id, .int .i64 st, .int .i64 op, .int .i64 arg, .int .i64 pc, .int .i64 til, .bool per, .bool can, .int .i64 r0, .int .i64 r1, .int .i64 r2, .int .i64 r3, .int .i64 r4, .int .i64 code, .int .i64 res]) (.agg #[.int .i64 id, .int .i64 st, .int .i64 op, .int .i64 arg, .int .i64 pc, .int .i64 til, .bool per, .bool can, .int .i64 r0, .int .i64 r1, .int .i64 r2, .int .i64 r3, .int .i64 r4, .int .i64 code, .int .i64 res])).run Try.prog wx = .ok (.bool false) wx := fun wx => by rw [run_neq_thread id st op arg pc til per can r0 r1 r2 r3 r4 code res id st op arg pc til per can r0 r1 r2 r3 r4 code res wx, eqTh_refl]; rfl
        have HS2 : Hid (∀ j, j < k + 1 → l[j]? = r[j]?) := by
          unfold Hid
          intro j hj
          by_cases e : j < k
          · exact HS.out j e
          · obtain rfl : j = k := by omega
            rw [HX.out, HY.out]
        clear hxy
        go_wp2_with fail
        go_region_held3 (fun w' => (w'.cell? ⟨b, o + k * 15, none⟩ = some (.int .i64 id) ∧ w'.cell? ⟨b, o + k * 15 + 1, none⟩ = some (.int .i64 st) ∧ w'.cell? ⟨b, o + k * 15 + 2, none⟩ = some (.int .i64 op) ∧ w'.cell? ⟨b, o + k * 15 + 3, none⟩ = some (.int .i64 arg) ∧ w'.cell? ⟨b, o + k * 15 + 4, none⟩ = some (.int .i64 pc) ∧ w'.cell? ⟨b, o + k * 15 + 5, none⟩ = some (.int .i64 til) ∧ w'.cell? ⟨b, o + k * 15 + 6, none⟩ = some (.bool per) ∧ w'.cell? ⟨b, o + k * 15 + 7, none⟩ = some (.bool can) ∧ w'.cell? ⟨b, o + k * 15 + 8, none⟩ = some (.int .i64 r0) ∧ w'.cell? ⟨b, o + k * 15 + 9, none⟩ = some (.int .i64 r1) ∧ w'.cell? ⟨b, o + k * 15 + 10, none⟩ = some (.int .i64 r2) ∧ w'.cell? ⟨b, o + k * 15 + 11, none⟩ = some (.int .i64 r3) ∧ w'.cell? ⟨b, o + k * 15 + 12, none⟩ = some (.int .i64 r4) ∧ w'.cell? ⟨b, o + k * 15 + 13, none⟩ = some (.int .i64 code) ∧ w'.cell? ⟨b, o + k * 15 + 14, none⟩ = some (.int .i64 res)) ∧ (w'.cell? ⟨b2, o2 + k * 15, none⟩ = some (.int .i64 id) ∧ w'.cell? ⟨b2, o2 + k * 15 + 1, none⟩ = some (.int .i64 st) ∧ w'.cell? ⟨b2, o2 + k * 15 + 2, none⟩ = some (.int .i64 op) ∧ w'.cell? ⟨b2, o2 + k * 15 + 3, none⟩ = some (.int .i64 arg) ∧ w'.cell? ⟨b2, o2 + k * 15 + 4, none⟩ = some (.int .i64 pc) ∧ w'.cell? ⟨b2, o2 + k * 15 + 5, none⟩ = some (.int .i64 til) ∧ w'.cell? ⟨b2, o2 + k * 15 + 6, none⟩ = some (.bool per) ∧ w'.cell? ⟨b2, o2 + k * 15 + 7, none⟩ = some (.bool can) ∧ w'.cell? ⟨b2, o2 + k * 15 + 8, none⟩ = some (.int .i64 r0) ∧ w'.cell? ⟨b2, o2 + k * 15 + 9, none⟩ = some (.int .i64 r1) ∧ w'.cell? ⟨b2, o2 + k * 15 + 10, none⟩ = some (.int .i64 r2) ∧ w'.cell? ⟨b2, o2 + k * 15 + 11, none⟩ = some (.int .i64 r3) ∧ w'.cell? ⟨b2, o2 + k * 15 + 12, none⟩ = some (.int .i64 r4) ∧ w'.cell? ⟨b2, o2 + k * 15 + 13, none⟩ = some (.int .i64 code) ∧ w'.cell? ⟨b2, o2 + k * 15 + 14, none⟩ = some (.int .i64 res))) (exact HC.out) (fail)
        go_wp2
        go_roundw
        case rel => exact ⟨k + 1, by omega, by go_num, HS2.out, HB'.out.drew⟩
        case measure => simp [intOf]; omega
      · have hq := eqTh_ne id st op arg pc til per can r0 r1 r2 r3 r4 code res id2 st2 op2 arg2 pc2 til2 per2 can2 r02 r12 r22 r32 r42 code2 res2 hxy
        have hneq : ∀ wx : World, (binOp .neq 103 (.agg #[.int .i64 id, .int .i64 st, .int .i64 op, .int .i64 arg, .int .i64 pc, .int .i64 til, .bool per, .bool can, .int .i64 r0, .int .i64 r1, .int .i64 r2, .int .i64 r3, .int .i64 r4, .int .i64 code, .int .i64 res]) (.agg #[.int .i64 id2, .int .i64 st2, .int .i64 op2, .int .i64 arg2, .int .i64 pc2, .int .i64 til2, .bool per2, .bool can2, .int .i64 r02, .int .i64 r12, .int .i64 r22, .int .i64 r32, .int .i64 r42, .int .i64 code2, .int .i64 res2])).run Try.prog wx = .ok (.bool true) wx := fun wx => by rw [run_neq_thread id st op arg pc til per can r0 r1 r2 r3 r4 code res id2 st2 op2 arg2 pc2 til2 per2 can2 r02 r12 r22 r32 r42 code2 res2 wx, hq]; rfl
        have HN : Hid (deq l r = false) := by
          apply deq_no
          rintro rfl
          have := HX.out.symm.trans HY.out
          exact hxy (Option.some.inj this)
        clear hxy hq
        go_wp2_with fail
        go_region_held3 (fun w' => (w'.cell? ⟨b, o + k * 15, none⟩ = some (.int .i64 id) ∧ w'.cell? ⟨b, o + k * 15 + 1, none⟩ = some (.int .i64 st) ∧ w'.cell? ⟨b, o + k * 15 + 2, none⟩ = some (.int .i64 op) ∧ w'.cell? ⟨b, o + k * 15 + 3, none⟩ = some (.int .i64 arg) ∧ w'.cell? ⟨b, o + k * 15 + 4, none⟩ = some (.int .i64 pc) ∧ w'.cell? ⟨b, o + k * 15 + 5, none⟩ = some (.int .i64 til) ∧ w'.cell? ⟨b, o + k * 15 + 6, none⟩ = some (.bool per) ∧ w'.cell? ⟨b, o + k * 15 + 7, none⟩ = some (.bool can) ∧ w'.cell? ⟨b, o + k * 15 + 8, none⟩ = some (.int .i64 r0) ∧ w'.cell? ⟨b, o + k * 15 + 9, none⟩ = some (.int .i64 r1) ∧ w'.cell? ⟨b, o + k * 15 + 10, none⟩ = some (.int .i64 r2) ∧ w'.cell? ⟨b, o + k * 15 + 11, none⟩ = some (.int .i64 r3) ∧ w'.cell? ⟨b, o + k * 15 + 12, none⟩ = some (.int .i64 r4) ∧ w'.cell? ⟨b, o + k * 15 + 13, none⟩ = some (.int .i64 code) ∧ w'.cell? ⟨b, o + k * 15 + 14, none⟩ = some (.int .i64 res)) ∧ (w'.cell? ⟨b2, o2 + k * 15, none⟩ = some (.int .i64 id2) ∧ w'.cell? ⟨b2, o2 + k * 15 + 1, none⟩ = some (.int .i64 st2) ∧ w'.cell? ⟨b2, o2 + k * 15 + 2, none⟩ = some (.int .i64 op2) ∧ w'.cell? ⟨b2, o2 + k * 15 + 3, none⟩ = some (.int .i64 arg2) ∧ w'.cell? ⟨b2, o2 + k * 15 + 4, none⟩ = some (.int .i64 pc2) ∧ w'.cell? ⟨b2, o2 + k * 15 + 5, none⟩ = some (.int .i64 til2) ∧ w'.cell? ⟨b2, o2 + k * 15 + 6, none⟩ = some (.bool per2) ∧ w'.cell? ⟨b2, o2 + k * 15 + 7, none⟩ = some (.bool can2) ∧ w'.cell? ⟨b2, o2 + k * 15 + 8, none⟩ = some (.int .i64 r02) ∧ w'.cell? ⟨b2, o2 + k * 15 + 9, none⟩ = some (.int .i64 r12) ∧ w'.cell? ⟨b2, o2 + k * 15 + 10, none⟩ = some (.int .i64 r22) ∧ w'.cell? ⟨b2, o2 + k * 15 + 11, none⟩ = some (.int .i64 r32) ∧ w'.cell? ⟨b2, o2 + k * 15 + 12, none⟩ = some (.int .i64 r42) ∧ w'.cell? ⟨b2, o2 + k * 15 + 13, none⟩ = some (.int .i64 code2) ∧ w'.cell? ⟨b2, o2 + k * 15 + 14, none⟩ = some (.int .i64 res2))) (exact HC.out) (fail)
        go_wp2
        go_ret
        exact ⟨ret_bool HN.out.symm, HB'.out.drew⟩
    · have hge : ¬ (k : Int) < l.length := by omega
      have HN : Hid (deq l r = true) := by
        apply deq_yes
        apply List.ext_getElem?
        intro j
        by_cases hj : j < l.length
        · exact HS.out j (by omega)
        · rw [List.getElem?_eq_none (by omega), List.getElem?_eq_none (by have := HL.out; omega)]
      go_wp2
      go_ret
      exact ⟨ret_bool HN.out.symm, HB'.out⟩
end Go.Proofs.Ytiogebflfnicgaa
