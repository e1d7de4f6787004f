/-
  Contracts of the laws' helpers that compare, mark and hold lists of integers and arenas.
-/
import Derived.Test.YtiogebflfnicgaaHelp
namespace Go.Proofs.Ytiogebflfnicgaa
open Go.RowKit

set_option maxHeartbeats 1000000 in
theorem eqIntS_any (A B : Option Addr) (c d : Nat) (xs ys : List Int) (w : World) (hn : xs.length ≤ maxLen) (hm : ys.length ≤ maxLen) (hA : Rd w A xs) (hB : Rd w B ys) :
    Calls Try.prog 48 #[.slice A xs.length c, .slice B ys.length d] w fun e w' => e = .returned (.bool (decide (xs = ys))) ∧ ∃ n, w' = w.drewN n := by
  unfold maxLen at hn hm
  by_cases hl : xs.length = ys.length
  · have hl' : ((xs.length : Int) != (ys.length : Int)) = false := by simp [hl]
    have HL := Lib.hid hl; clear hl
    have HA := Lib.hid hA; have HB := Lib.hid hB; clear hA hB
    go_enter Try.func48, Try.ntmps48
    go_wp2
    go_loopw [5] (fun i wr => ∃ k : Nat, k ≤ xs.length ∧ i = .int .i64 k ∧ (∀ j, j < k → xs.getD j 0 = ys.getD j 0) ∧ ∃ n, wr = w.drewN n) (fun i _ => xs.length - (intOf i).toNat)
    case atStart => exact ⟨0, Nat.zero_le _, rfl, fun j hj => absurd hj (by omega), 0, rfl⟩
    case round =>
      obtain ⟨k, hk, rfl, hsame, n, rfl⟩ := hrel
      have HS := Lib.hid hsame; clear hsame
      by_cases hlt : k < xs.length
      · have hlt' : k < ys.length := by have := HL.out; omega
        obtain ⟨b, o, rfl, hcell⟩ := HA.out k hlt
        obtain ⟨b', o', rfl, hcell'⟩ := HB.out k hlt'
        generalize hx : xs.getD k 0 = x at *
        generalize hy : ys.getD k 0 = y at *
        have HX := Lib.hid hx; have HY := Lib.hid hy; clear hx hy
        by_cases hxy : x = y
        · subst hxy
          go_wp2
          go_region
          all_goals
            go_wp2
            go_roundw
            case rel => exact ⟨k + 1, by omega, by go_num, fun j hj => by
              by_cases e : j < k
              · exact HS.out j e
              · obtain rfl : j = k := by omega
                rw [HX.out, HY.out], n + 1, rfl⟩
            case measure => simp [intOf]; omega
        · have hne : (x != y) = true := by simp [hxy]
          have HN : Hid (decide (xs = ys) = false) := by
            apply decide_eq_false
            rintro rfl
            exact hxy (HX.out.symm.trans HY.out)
          clear hxy
          go_wp2
          go_region
          all_goals
            go_wp2
            go_ret
            exact ⟨ret_bool HN.out.symm, n + 1, rfl⟩
      · have HN : Hid (decide (xs = ys) = true) := by
          apply decide_eq_true
          apply List.ext_getElem? 
          intro j
          by_cases hj : j < xs.length
          · have h1 := HS.out j (by omega)
            have hj' : j < ys.length := by have := HL.out; omega
            simp only [List.getD, List.getElem?_eq_getElem hj, List.getElem?_eq_getElem hj', Option.getD_some] at h1
            rw [List.getElem?_eq_getElem hj, List.getElem?_eq_getElem hj', h1]
          · rw [List.getElem?_eq_none (by omega), List.getElem?_eq_none (by have := HL.out; omega)]
        go_wp2
        go_ret
        exact ⟨ret_bool HN.out.symm, n, rfl⟩
  · have hl' : ((xs.length : Int) != (ys.length : Int)) = true := by simp; omega
    have HN : Hid (decide (xs = ys) = false) := by
      apply decide_eq_false
      rintro rfl
      exact hl rfl
    clear hl
    go_enter Try.func48, Try.ntmps48
    go_wp2
    go_ret
    exact ⟨ret_bool HN.out.symm, 0, rfl⟩

set_option maxHeartbeats 1000000 in
theorem eqArena_any (A B : Option Addr) (c d : Nat) (xs ys : List Int) (w : World) (hn : xs.length ≤ maxLen) (hm : ys.length ≤ maxLen) (hA : Rd w A xs) (hB : Rd w B ys) :
    Calls Try.prog 83 #[.agg #[.slice A xs.length c], .agg #[.slice B ys.length d]] w fun e w' => e = .returned (.bool (decide (xs = ys))) ∧ Below w.heap.size w w' := by
  have HA := Lib.hid hA; have HB := Lib.hid hB; clear hA hB
  cases he : decide (xs = ys)
  all_goals
    have HE := Lib.hid he; clear he
    go_enter Try.func83, Try.ntmps83
    go_wp2_with fail
    refine (eqIntS_any _ _ _ _ xs ys _ hn hm (HA.out.below ((below_alloc _ _).alloc (by simp) _)) (HB.out.below ((below_alloc _ _).alloc (by simp) _))).mono ?_
    rintro e w' ⟨rfl, n, rfl⟩
    rw [HE.out]
    go_wp2
    go_ret
    exact ⟨rfl, ((below_alloc _ _).alloc (by simp) _).trans ((below_drewN _).mono (by simp <;> omega))⟩

/-- The numbers from k on, n of them. -/
def upFrom (k : Int) (n : Nat) : List Int := (List.range n).map fun (i : Nat) => k + (i : Int)
theorem upFrom_length (k : Int) (n : Nat) : (upFrom k n).length = n := by simp [upFrom]
theorem upFrom_get (k : Int) (n i : Nat) (h : i < n) : (upFrom k n).getD i 0 = k + i := by simp [upFrom, List.getD, h]
def markTo (k : Int) (zs : List Int) (j : Nat) : List Int := upFrom k j ++ zs.drop j
theorem markTo_zero (k : Int) (zs : List Int) : markTo k zs 0 = zs := by simp [markTo, upFrom]
theorem markTo_all (k : Int) (zs : List Int) (j : Nat) (h : j = zs.length) : markTo k zs j = upFrom k zs.length := by subst h; simp [markTo]
theorem markTo_length (k : Int) (zs : List Int) (j : Nat) (h : j ≤ zs.length) : (markTo k zs j).length = zs.length := by simp [markTo, upFrom_length]; omega
theorem upFrom_succ (k : Int) (j : Nat) : upFrom k (j + 1) = upFrom k j ++ [k + j] := by simp [upFrom, List.range_succ]
theorem markTo_set (k : Int) (zs : List Int) (j : Nat) (h : j < zs.length) : (markTo k zs j).set j (k + j) = markTo k zs (j + 1) := by
  unfold markTo
  rw [List.set_append_right _ _ (by rw [upFrom_length]; omega), upFrom_length, Nat.sub_self, upFrom_succ, List.append_assoc]
  rw [show zs.drop j = zs[j] :: zs.drop (j + 1) from List.drop_eq_getElem_cons h, List.set_cons_zero]; rfl

set_option maxHeartbeats 1000000 in
theorem markIntS_any (A : Option Addr) (c base : Nat) (zs : List Int) (k : Int) (w : World) (hn : zs.length ≤ 1048576) (h0 : 0 ≤ k) (h1 : k ≤ 1000000000)
    (hown : w.ownsRow base 3 1 (.slice A zs.length c) zs.length (ints zs)) :
    Calls Try.prog 60 #[.slice A zs.length c, .int .i64 k] w fun e w' => e = .returned (.int .i64 (k + zs.length)) ∧
      w'.ownsRow base 3 1 (.slice A zs.length c) zs.length (ints (upFrom k zs.length)) ∧ w.grownBy w' (Value.ownBlock (.slice A zs.length c)) := by
  have HO := Lib.hid hown; clear hown
  go_enter Try.func60, Try.ntmps60
  go_wp2
  go_loopw [1, 5] (fun kk i wr => ∃ j : Nat, j ≤ zs.length ∧ i = .int .i64 j ∧ kk = .int .i64 (k + j) ∧ wr.ownsRow base 3 1 (.slice A zs.length c) zs.length (ints (markTo k zs j)) ∧ w.grownBy wr (Value.ownBlock (.slice A zs.length c)))
    (fun _ i _ => zs.length - (intOf i).toNat)
  case atStart => exact ⟨0, Nat.zero_le _, rfl, by simp, by rw [markTo_zero]; exact HO.out, World.grownBy.refl _ _⟩
  case round =>
    obtain ⟨j, hj, rfl, rfl, hown, hgr⟩ := hrel
    have HO' := Lib.hid hown; have HG := Lib.hid hgr
    clear hown hgr
    by_cases hlt : j < zs.length
    · obtain ⟨g, rfl⟩ : ∃ g, A = some ⟨g, 0, none⟩ := by
        rcases HO'.out.2 with ⟨hv, h0⟩ | ⟨g, cap, cur, hv, _⟩
        · omega
        · simp only [Value.slice.injEq] at hv
          exact ⟨g, hv.1⟩
      have hold : wr.cell? ⟨g, j, none⟩ = some (.int .i64 ((markTo k zs j).getD j 0)) := by
        rw [World.ownsRow.cellAt HO'.out j (by omega)]; exact ints_get _ _ (by rw [markTo_length _ _ _ hj]; exact hlt)
      have hfz := HO'.out.frozenAt j
      have HS := Lib.hid (HO'.out.stored j (.int .i64 (k + j)))
      generalize hy : (markTo k zs j).getD j 0 = y at *
      clear hy
      go_wp2
      go_roundw
      case rel =>
        have h1 := HS.out.1
        rw [ints_set, markTo_set _ _ _ hlt] at h1
        exact ⟨j + 1, by omega, by go_num, by go_num, h1, grown_trans HG.out HS.out.2⟩
      case measure => simp [intOf]; omega
    · obtain rfl : j = zs.length := by omega
      go_wp2
      go_ret
      refine ⟨rfl, ?_, HG.out⟩
      have := HO'.out
      rwa [markTo_all _ _ _ rfl] at this

set_option maxHeartbeats 1000000 in
theorem heldIntS_any (A : Option Addr) (n c : Nat) (k : Int) (w : World) (hn : n ≤ 1048576) (h0 : 0 ≤ k) (h1 : k ≤ 1000000000) (hA : Rd w A (upFrom k n)) :
    Calls Try.prog 62 #[.slice A n c, .int .i64 k] w fun e w' => e = .returned (.int .i64 (k + n)) ∧ w = w' := by
  have HA := Lib.hid hA; clear hA
  go_enter Try.func62, Try.ntmps62
  go_wp2
  go_loop [1, 5] (fun kk i => ∃ j : Nat, j ≤ n ∧ i = .int .i64 j ∧ kk = .int .i64 (k + j)) (fun _ i => n - (intOf i).toNat)
  case atStart => exact ⟨0, Nat.zero_le _, rfl, by simp⟩
  case round =>
    obtain ⟨j, hj, rfl, rfl⟩ := hrel
    by_cases hlt : j < n
    · obtain ⟨b, o, rfl, hcell⟩ := HA.out j (by rw [upFrom_length]; exact hlt)
      rw [upFrom_get _ _ _ hlt] at hcell
      go_wp2
      go_round
      case rel => exact ⟨j + 1, by omega, by go_num, by go_num⟩
      case measure => simp [intOf]; omega
    · obtain rfl : j = n := by omega
      go_wp2
      go_ret
      exact ⟨rfl, rfl⟩

end Go.Proofs.Ytiogebflfnicgaa
