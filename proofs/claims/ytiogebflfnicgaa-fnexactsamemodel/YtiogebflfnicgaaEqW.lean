/-
  Waiters, and lists of them and of ints, compared.
-/
import Derived.Test.YtiogebflfnicgaaMod
import Derived.Test.YtiogebflfnicgaaThEq
namespace Go.Proofs.Ytiogebflfnicgaa
open Go.RowKit

instance : DecidableEq Wtr := fun a b =>
  if h : a.th = b.th ∧ a.op = b.op ∧ a.arg = b.arg then .isTrue (by cases a; cases b; obtain ⟨h1, h2, h3⟩ := h; simp only at h1 h2 h3; subst h1 h2 h3; rfl)
  else .isFalse (fun e => h (by subst e; exact ⟨rfl, rfl, rfl⟩))
def eqW (th op arg th2 op2 arg2 : Int) : Bool := th == th2 && op == op2 && arg == arg2
theorem eqW_refl (th op arg : Int) : eqW th op arg th op arg = true := by simp [eqW]
theorem eqW_ne {th op arg th2 op2 arg2 : Int} (h : (⟨th, op, arg⟩ : Wtr) ≠ ⟨th2, op2, arg2⟩) : eqW th op arg th2 op2 arg2 = false := by
  cases e : eqW th op arg th2 op2 arg2
  · rfl
  · refine absurd ?_ h
    simp [eqW] at e
    obtain ⟨⟨rfl, rfl⟩, rfl⟩ := e
    rfl
theorem run_eq_waiter (th op arg th2 op2 arg2 : Int) (w : World) :
    (Op.equalIn 10000 41 (.agg #[.int .i64 th, .int .i64 op, .int .i64 arg]) (.agg #[.int .i64 th2, .int .i64 op2, .int .i64 arg2])).run Try.prog w = .ok (eqW th op arg th2 op2 arg2) w := by
  have hq : Try.prog.stoodInHeld 41 = false := by kernel_rfl
  rw [show (10000 : Nat) = 9999 + 1 from rfl, run_equalIn_struct w 9999 41 _ _ (by kernel_rfl) hq]
  simp [go_sem, Op.eqFields, Program.fieldsOf, Try.underlying41, part, isAgg, run_underlying Try.underlying3]
  unfold eqW
  refine if h0 : th = th2 then ?_ else (by simp [h0])
  refine if h1 : op = op2 then ?_ else (by simp [h1])
  refine if h2 : arg = arg2 then ?_ else (by simp [h2])
  simp [h0, h1, h2]
theorem run_neq_waiter (th op arg th2 op2 arg2 : Int) (w : World) :
    (binOp .neq 41 (.agg #[.int .i64 th, .int .i64 op, .int .i64 arg]) (.agg #[.int .i64 th2, .int .i64 op2, .int .i64 arg2])).run Try.prog w = .ok (.bool (!eqW th op arg th2 op2 arg2)) w := by
  rw [run_neq_struct, run_eq_waiter]; rfl

set_option maxHeartbeats 1000000 in
theorem l01SameM_any (A B : Option Addr) (c d : Nat) (xs ys : List Int) (w : World) (hn : xs.length ≤ maxLen) (hm : ys.length ≤ maxLen) (hA : Rd w A xs) (hB : Rd w B ys) :
    Calls Try.prog 50 #[.slice A xs.length c, .slice B ys.length d] w fun e w' => e = .returned (.bool (decide (xs = ys))) ∧ ∃ n, w' = w.drewN n := by
  unfold maxLen at hn hm
  by_cases hl : xs.length = ys.length
  · have hl' : ((xs.length : Int) != (ys.length : Int)) = false := by simp [hl]
    have HL := Lib.hid hl; clear hl
    have HA := Lib.hid hA; have HB := Lib.hid hB; clear hA hB
    go_enter Try.func50, Try.ntmps50
    go_wp2
    go_loopw [5] (fun i wr => ∃ k : Nat, k ≤ xs.length ∧ i = .int .i64 k ∧ (∀ j, j < k → xs.getD j 0 = ys.getD j 0) ∧ ∃ n, wr = w.drewN n) (fun i _ => xs.length - (intOf i).toNat)
    case atStart => exact ⟨0, Nat.zero_le _, rfl, fun j hj => absurd hj (by omega), 0, rfl⟩
    case round =>
      obtain ⟨k, hk, rfl, hsame, n, rfl⟩ := hrel
      have HS := Lib.hid hsame; clear hsame
      by_cases hlt : k < xs.length
      · have hlt' : k < ys.length := by have := HL.out; omega
        obtain ⟨b, o, rfl, hcell⟩ := HA.out k hlt
        obtain ⟨b', o', rfl, hcell'⟩ := HB.out k hlt'
        generalize hx : xs.getD k 0 = x at *
        generalize hy : ys.getD k 0 = y at *
        have HX := Lib.hid hx; have HY := Lib.hid hy; clear hx hy
        by_cases hxy : x = y
        · subst hxy
          go_wp2
          go_region
          all_goals
            go_wp2
            go_roundw
            case rel => exact ⟨k + 1, by omega, by go_num, fun j hj => by
              by_cases e : j < k
              · exact HS.out j e
              · obtain rfl : j = k := by omega
                rw [HX.out, HY.out], n + 1, rfl⟩
            case measure => simp [intOf]; omega
        · have hne : (x != y) = true := by simp [hxy]
          have HN : Hid (decide (xs = ys) = false) := by
            apply decide_eq_false
            rintro rfl
            exact hxy (HX.out.symm.trans HY.out)
          clear hxy
          go_wp2
          go_region
          all_goals
            go_wp2
            go_ret
            exact ⟨ret_bool HN.out.symm, n + 1, rfl⟩
      · have HN : Hid (decide (xs = ys) = true) := by
          apply decide_eq_true
          apply List.ext_getElem? 
          intro j
          by_cases hj : j < xs.length
          · have h1 := HS.out j (by omega)
            have hj' : j < ys.length := by have := HL.out; omega
            simp only [List.getD, List.getElem?_eq_getElem hj, List.getElem?_eq_getElem hj', Option.getD_some] at h1
            rw [List.getElem?_eq_getElem hj, List.getElem?_eq_getElem hj', h1]
          · rw [List.getElem?_eq_none (by omega), List.getElem?_eq_none (by have := HL.out; omega)]
        go_wp2
        go_ret
        exact ⟨ret_bool HN.out.symm, n, rfl⟩
  · have hl' : ((xs.length : Int) != (ys.length : Int)) = true := by simp; omega
    have HN : Hid (decide (xs = ys) = false) := by
      apply decide_eq_false
      rintro rfl
      exact hl rfl
    clear hl
    go_enter Try.func50, Try.ntmps50
    go_wp2
    go_ret
    exact ⟨ret_bool HN.out.symm, 0, rfl⟩


set_option maxHeartbeats 1000000 in
theorem eqIntsM_any (A B : Option Addr) (c d : Nat) (xs ys : List Int) (w : World) (hn : xs.length ≤ maxLen) (hm : ys.length ≤ maxLen) (hA : Rd w A xs) (hB : Rd w B ys) :
    Calls Try.prog 52 #[.slice A xs.length c, .slice B ys.length d] w fun e w' => e = .returned (.bool (decide (xs = ys))) ∧ ∃ n, w' = w.drewN n := by
  unfold maxLen at hn hm
  by_cases hl : xs.length = ys.length
  · have hl' : ((xs.length : Int) != (ys.length : Int)) = false := by simp [hl]
    have HL := Lib.hid hl; clear hl
    have HA := Lib.hid hA; have HB := Lib.hid hB; clear hA hB
    go_enter Try.func52, Try.ntmps52
    go_wp2
    go_loopw [13] (fun i wr => ∃ k : Nat, k ≤ xs.length ∧ i = .int .i64 k ∧ (∀ j, j < k → xs.getD j 0 = ys.getD j 0) ∧ ∃ n, wr = w.drewN n) (fun i _ => xs.length - (intOf i).toNat)
    case atStart => exact ⟨0, Nat.zero_le _, rfl, fun j hj => absurd hj (by omega), 0, rfl⟩
    case round =>
      obtain ⟨k, hk, rfl, hsame, n, rfl⟩ := hrel
      have HS := Lib.hid hsame; clear hsame
      by_cases hlt : k < xs.length
      · have hlt' : k < ys.length := by have := HL.out; omega
        obtain ⟨b, o, rfl, hcell⟩ := HA.out k hlt
        obtain ⟨b', o', rfl, hcell'⟩ := HB.out k hlt'
        generalize hx : xs.getD k 0 = x at *
        generalize hy : ys.getD k 0 = y at *
        have HX := Lib.hid hx; have HY := Lib.hid hy; clear hx hy
        by_cases hxy : x = y
        · subst hxy
          go_wp2
          go_region
          all_goals
            go_wp2
            go_roundw
            case rel => exact ⟨k + 1, by omega, by go_num, fun j hj => by
              by_cases e : j < k
              · exact HS.out j e
              · obtain rfl : j = k := by omega
                rw [HX.out, HY.out], n + 1, rfl⟩
            case measure => simp [intOf]; omega
        · have hne : (x != y) = true := by simp [hxy]
          have HN : Hid (decide (xs = ys) = false) := by
            apply decide_eq_false
            rintro rfl
            exact hxy (HX.out.symm.trans HY.out)
          clear hxy
          go_wp2
          go_region
          all_goals
            go_wp2
            go_ret
            exact ⟨ret_bool HN.out.symm, n + 1, rfl⟩
      · have HN : Hid (decide (xs = ys) = true) := by
          apply decide_eq_true
          apply List.ext_getElem? 
          intro j
          by_cases hj : j < xs.length
          · have h1 := HS.out j (by omega)
            have hj' : j < ys.length := by have := HL.out; omega
            simp only [List.getD, List.getElem?_eq_getElem hj, List.getElem?_eq_getElem hj', Option.getD_some] at h1
            rw [List.getElem?_eq_getElem hj, List.getElem?_eq_getElem hj', h1]
          · rw [List.getElem?_eq_none (by omega), List.getElem?_eq_none (by have := HL.out; omega)]
        go_wp2
        go_ret
        exact ⟨ret_bool HN.out.symm, n, rfl⟩
  · have hl' : ((xs.length : Int) != (ys.length : Int)) = true := by simp; omega
    have HN : Hid (decide (xs = ys) = false) := by
      apply decide_eq_false
      rintro rfl
      exact hl rfl
    clear hl
    go_enter Try.func52, Try.ntmps52
    go_wp2
    go_ret
    exact ⟨ret_bool HN.out.symm, 0, rfl⟩


set_option maxHeartbeats 4000000 in
set_option maxRecDepth 100000 in
theorem l10Waiters_any (A B : Option Addr) (c d : Nat) (l r : List Wtr) (w : World) (hn : l.length ≤ 1048576) (hm : r.length ≤ 1048576) (hA : RdR Wtr.cs w A l) (hB : RdR Wtr.cs w B r) :
    Calls Try.prog 51 #[.slice A l.length c, .slice B r.length d] w fun e w' => e = .returned (.bool (decide (l = r))) ∧ Below w.heap.size w w' := by
  have HA := Lib.hid hA; have HBB := Lib.hid hB; clear hA hB
  by_cases hl : l.length = r.length
  rotate_left
  · have hl' : ((l.length : Int) != (r.length : Int)) = true := by simp; omega
    have HN : Hid (decide (l = r) = false) := by
      apply decide_eq_false
      rintro rfl
      exact hl rfl
    clear hl
    go_enter Try.func51, Try.ntmps51
    go_wp2
    go_ret
    exact ⟨ret_bool HN.out.symm, Below.refl _ _⟩
  have hl' : ((l.length : Int) != (r.length : Int)) = false := by simp [hl]
  have HL := Lib.hid hl; clear hl
  go_enter Try.func51, Try.ntmps51
  go_wp2
  go_loopw [5] (fun i wr => ∃ k : Nat, k ≤ l.length ∧ i = .int .i64 k ∧ (∀ j, j < k → l[j]? = r[j]?) ∧ Below w.heap.size w wr) (fun i _ => l.length - (intOf i).toNat)
  case atStart => exact ⟨0, Nat.zero_le _, rfl, fun j hj => absurd hj (by omega), Below.refl _ _⟩
  case round =>
    obtain ⟨k, hk, rfl, hsame, hbl⟩ := hrel
    have HS := Lib.hid hsame; have HB' := Lib.hid hbl
    clear hsame hbl
    by_cases hlt : k < l.length
    · have hlt' : (k : Int) < l.length := by omega
      have hlr : k < r.length := by have := HL.out; omega
      obtain ⟨x, hx⟩ : ∃ x, l[k]? = some x := ⟨_, List.getElem?_eq_getElem hlt⟩
      obtain ⟨y, hy⟩ : ∃ y, r[k]? = some y := ⟨_, List.getElem?_eq_getElem hlr⟩
      obtain ⟨b, o, rfl, hr1⟩ := (HA.out.below HB'.out).row Wtr.len k x hx
      obtain ⟨b2, o2, rfl, hr2⟩ := (HBB.out.below HB'.out).row Wtr.len k y hy
      have HX := Lib.hid hx; have HY := Lib.hid hy
      clear hx hy
      obtain ⟨th, op, arg⟩ := x
      obtain ⟨th2, op2, arg2⟩ := y
      have HC := Lib.hid (And.intro (cellsWaiter _ _ _ hr1) (cellsWaiter _ _ _ hr2))
      clear hr1 hr2
      by_cases hxy : (⟨th, op, arg⟩ : Wtr) = ⟨th2, op2, arg2⟩
      · have e1 : th = th2 := congrArg Wtr.th hxy
        have e2 : op = op2 := congrArg Wtr.op hxy
        have e3 : arg = arg2 := congrArg Wtr.arg hxy
        subst e1 e2 e3
        have hneq : ∀ wx : World, (binOp .neq 41 (.agg #[.int .i64 th, .int .i64 op, .int .i64 arg]) (.agg #[.int .i64 th, .int .i64 op, .int .i64 arg])).run Try.prog wx = .ok (.bool false) wx := fun wx => by rw [run_neq_waiter, eqW_refl]; rfl
        have HS2 : Hid (∀ j, j < k + 1 → l[j]? = r[j]?) := by
          unfold Hid
          intro j hj
          by_cases e : j < k
          · exact HS.out j e
          · obtain rfl : j = k := by omega
            rw [HX.out, HY.out]
        clear hxy
        go_wp2_with fail
        go_region_held3 (fun w' => (w'.cell? ⟨b, o + k * 3, none⟩ = some (.int .i64 th) ∧ w'.cell? ⟨b, o + k * 3 + 1, none⟩ = some (.int .i64 op) ∧ w'.cell? ⟨b, o + k * 3 + 2, none⟩ = some (.int .i64 arg)) ∧ (w'.cell? ⟨b2, o2 + k * 3, none⟩ = some (.int .i64 th) ∧ w'.cell? ⟨b2, o2 + k * 3 + 1, none⟩ = some (.int .i64 op) ∧ w'.cell? ⟨b2, o2 + k * 3 + 2, none⟩ = some (.int .i64 arg))) (exact HC.out) (fail)
        go_wp2
        go_roundw
        case rel => exact ⟨k + 1, by omega, by go_num, HS2.out, HB'.out.drew⟩
        case measure => simp [intOf]; omega
      · have hq := eqW_ne hxy
        have hneq : ∀ wx : World, (binOp .neq 41 (.agg #[.int .i64 th, .int .i64 op, .int .i64 arg]) (.agg #[.int .i64 th2, .int .i64 op2, .int .i64 arg2])).run Try.prog wx = .ok (.bool true) wx := fun wx => by rw [run_neq_waiter, hq]; rfl
        have HN : Hid (decide (l = r) = false) := by
          apply decide_eq_false
          rintro rfl
          have := HX.out.symm.trans HY.out
          exact hxy (Option.some.inj this)
        clear hxy hq
        go_wp2_with fail
        go_region_held3 (fun w' => (w'.cell? ⟨b, o + k * 3, none⟩ = some (.int .i64 th) ∧ w'.cell? ⟨b, o + k * 3 + 1, none⟩ = some (.int .i64 op) ∧ w'.cell? ⟨b, o + k * 3 + 2, none⟩ = some (.int .i64 arg)) ∧ (w'.cell? ⟨b2, o2 + k * 3, none⟩ = some (.int .i64 th2) ∧ w'.cell? ⟨b2, o2 + k * 3 + 1, none⟩ = some (.int .i64 op2) ∧ w'.cell? ⟨b2, o2 + k * 3 + 2, none⟩ = some (.int .i64 arg2))) (exact HC.out) (fail)
        go_wp2
        go_ret
        exact ⟨ret_bool HN.out.symm, HB'.out.drew⟩
    · have hge : ¬ (k : Int) < l.length := by omega
      have HN : Hid (decide (l = r) = true) := by
        apply decide_eq_true
        apply List.ext_getElem?
        intro j
        by_cases hj : j < l.length
        · exact HS.out j (by omega)
        · rw [List.getElem?_eq_none (by omega), List.getElem?_eq_none (by have := HL.out; omega)]
      go_wp2
      go_ret
      exact ⟨ret_bool HN.out.symm, HB'.out⟩

set_option maxHeartbeats 4000000 in
set_option maxRecDepth 100000 in
theorem eqRowsW_any (A B : Option Addr) (c d : Nat) (l r : List Wtr) (w : World) (hn : l.length ≤ 1048576) (hm : r.length ≤ 1048576) (hA : RdR Wtr.cs w A l) (hB : RdR Wtr.cs w B r) :
    Calls Try.prog 53 #[.slice A l.length c, .slice B r.length d] w fun e w' => e = .returned (.bool (decide (l = r))) ∧ Below w.heap.size w w' := by
  have HA := Lib.hid hA; have HBB := Lib.hid hB; clear hA hB
  by_cases hl : l.length = r.length
  rotate_left
  · have hl' : ((l.length : Int) != (r.length : Int)) = true := by simp; omega
    have HN : Hid (decide (l = r) = false) := by
      apply decide_eq_false
      rintro rfl
      exact hl rfl
    clear hl
    go_enter Try.func53, Try.ntmps53
    go_wp2
    go_ret
    exact ⟨ret_bool HN.out.symm, Below.refl _ _⟩
  have hl' : ((l.length : Int) != (r.length : Int)) = false := by simp [hl]
  have HL := Lib.hid hl; clear hl
  go_enter Try.func53, Try.ntmps53
  go_wp2
  go_loopw [13] (fun i wr => ∃ k : Nat, k ≤ l.length ∧ i = .int .i64 k ∧ (∀ j, j < k → l[j]? = r[j]?) ∧ Below w.heap.size w wr) (fun i _ => l.length - (intOf i).toNat)
  case atStart => exact ⟨0, Nat.zero_le _, rfl, fun j hj => absurd hj (by omega), Below.refl _ _⟩
  case round =>
    obtain ⟨k, hk, rfl, hsame, hbl⟩ := hrel
    have HS := Lib.hid hsame; have HB' := Lib.hid hbl
    clear hsame hbl
    by_cases hlt : k < l.length
    · have hlt' : (k : Int) < l.length := by omega
      have hlr : k < r.length := by have := HL.out; omega
      obtain ⟨x, hx⟩ : ∃ x, l[k]? = some x := ⟨_, List.getElem?_eq_getElem hlt⟩
      obtain ⟨y, hy⟩ : ∃ y, r[k]? = some y := ⟨_, List.getElem?_eq_getElem hlr⟩
      obtain ⟨b, o, rfl, hr1⟩ := (HA.out.below HB'.out).row Wtr.len k x hx
      obtain ⟨b2, o2, rfl, hr2⟩ := (HBB.out.below HB'.out).row Wtr.len k y hy
      have HX := Lib.hid hx; have HY := Lib.hid hy
      clear hx hy
      obtain ⟨th, op, arg⟩ := x
      obtain ⟨th2, op2, arg2⟩ := y
      have HC := Lib.hid (And.intro (cellsWaiter _ _ _ hr1) (cellsWaiter _ _ _ hr2))
      clear hr1 hr2
      by_cases hxy : (⟨th, op, arg⟩ : Wtr) = ⟨th2, op2, arg2⟩
      · have e1 : th = th2 := congrArg Wtr.th hxy
        have e2 : op = op2 := congrArg Wtr.op hxy
        have e3 : arg = arg2 := congrArg Wtr.arg hxy
        subst e1 e2 e3
        have hneq : ∀ wx : World, (binOp .neq 41 (.agg #[.int .i64 th, .int .i64 op, .int .i64 arg]) (.agg #[.int .i64 th, .int .i64 op, .int .i64 arg])).run Try.prog wx = .ok (.bool false) wx := fun wx => by rw [run_neq_waiter, eqW_refl]; rfl
        have HS2 : Hid (∀ j, j < k + 1 → l[j]? = r[j]?) := by
          unfold Hid
          intro j hj
          by_cases e : j < k
          · exact HS.out j e
          · obtain rfl : j = k := by omega
            rw [HX.out, HY.out]
        clear hxy
        go_wp2_with fail
        go_region_held3 (fun w' => (w'.cell? ⟨b, o + k * 3, none⟩ = some (.int .i64 th) ∧ w'.cell? ⟨b, o + k * 3 + 1, none⟩ = some (.int .i64 op) ∧ w'.cell? ⟨b, o + k * 3 + 2, none⟩ = some (.int .i64 arg)) ∧ (w'.cell? ⟨b2, o2 + k * 3, none⟩ = some (.int .i64 th) ∧ w'.cell? ⟨b2, o2 + k * 3 + 1, none⟩ = some (.int .i64 op) ∧ w'.cell? ⟨b2, o2 + k * 3 + 2, none⟩ = some (.int .i64 arg))) (exact HC.out) (fail)
        go_wp2
        go_roundw
        case rel => exact ⟨k + 1, by omega, by go_num, HS2.out, HB'.out.drew⟩
        case measure => simp [intOf]; omega
      · have hq := eqW_ne hxy
        have hneq : ∀ wx : World, (binOp .neq 41 (.agg #[.int .i64 th, .int .i64 op, .int .i64 arg]) (.agg #[.int .i64 th2, .int .i64 op2, .int .i64 arg2])).run Try.prog wx = .ok (.bool true) wx := fun wx => by rw [run_neq_waiter, hq]; rfl
        have HN : Hid (decide (l = r) = false) := by
          apply decide_eq_false
          rintro rfl
          have := HX.out.symm.trans HY.out
          exact hxy (Option.some.inj this)
        clear hxy hq
        go_wp2_with fail
        go_region_held3 (fun w' => (w'.cell? ⟨b, o + k * 3, none⟩ = some (.int .i64 th) ∧ w'.cell? ⟨b, o + k * 3 + 1, none⟩ = some (.int .i64 op) ∧ w'.cell? ⟨b, o + k * 3 + 2, none⟩ = some (.int .i64 arg)) ∧ (w'.cell? ⟨b2, o2 + k * 3, none⟩ = some (.int .i64 th2) ∧ w'.cell? ⟨b2, o2 + k * 3 + 1, none⟩ = some (.int .i64 op2) ∧ w'.cell? ⟨b2, o2 + k * 3 + 2, none⟩ = some (.int .i64 arg2))) (exact HC.out) (fail)
        go_wp2
        go_ret
        exact ⟨ret_bool HN.out.symm, HB'.out.drew⟩
    · have hge : ¬ (k : Int) < l.length := by omega
      have HN : Hid (decide (l = r) = true) := by
        apply decide_eq_true
        apply List.ext_getElem?
        intro j
        by_cases hj : j < l.length
        · exact HS.out j (by omega)
        · rw [List.getElem?_eq_none (by omega), List.getElem?_eq_none (by have := HL.out; omega)]
      go_wp2
      go_ret
      exact ⟨ret_bool HN.out.symm, HB'.out⟩
end Go.Proofs.Ytiogebflfnicgaa
