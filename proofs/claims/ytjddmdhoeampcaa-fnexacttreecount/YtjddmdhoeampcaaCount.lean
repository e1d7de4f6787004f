/-
  TreeCount, the program's and the model's.
-/
import Derived.Test.YtjddmdhoeampcaaQLd
import Derived.Test.YtjddmdhoeampcaaLawArenaOK
namespace Go.Proofs.Ytjddmdhoeampcaa
open Go.RowKit

/-- What so many leaves have counted. -/
def cntUp (zs : List Int) : Nat → Int
  | 0 => 0
  | k + 1 => cntUp zs k + (loadZ zs (11 + (k : Int)) - (k : Int)).tdiv 4
def cntB (zs : List Int) : Int := if arenaB zs = true then cntUp zs 4 else 0
def cntCode (zs : List Int) : Int := if arenaB zs = true then 0 else 1
theorem cnt_bad {zs : List Int} (h : arenaB zs = false) : cntB zs = 0 ∧ cntCode zs = 1 := by unfold cntB cntCode; rw [h]; exact ⟨rfl, rfl⟩
theorem cnt_ok {zs : List Int} (h : arenaB zs = true) : cntB zs = cntUp zs 4 ∧ cntCode zs = 0 := by unfold cntB cntCode; rw [if_pos h, if_pos h]; exact ⟨rfl, rfl⟩

theorem quarter_bounds (n : Int) (h : -2000000000 ≤ n ∧ n ≤ 2000000000) : -2000000000 ≤ n.tdiv 4 ∧ n.tdiv 4 ≤ 2000000000 := by
  by_cases hn : 0 ≤ n
  · rw [Int.tdiv_eq_ediv_of_nonneg hn]; omega
  · have := Int.neg_tdiv n 4
    have h2 : (-n).tdiv 4 = (-n) / 4 := Int.tdiv_eq_ediv_of_nonneg (by omega)
    omega
theorem cntUp_bounds {zs : List Int} (h : wordsB zs = true) : ∀ k : Nat, k ≤ 4 → -(2000000000 * (k : Int)) ≤ cntUp zs k ∧ cntUp zs k ≤ 2000000000 * (k : Int)
  | 0, _ => by simp [cntUp]
  | k + 1, hk => by
    have h1 := cntUp_bounds h k (by omega)
    have h2 := loadZ_in h (11 + (k : Int))
    have h3 := quarter_bounds (loadZ zs (11 + (k : Int)) - (k : Int)) (by omega)
    unfold cntUp
    omega
/-- A round's numbers do not wrap. -/
theorem cnt_round {zs : List Int} (h : wordsB zs = true) (k : Nat) (hk : k < 4) (x s : Int) (hx : loadZ zs (11 + (k : Int)) = x) (hs : cntUp zs k = s) :
    IntKind.i64.wrap (x - (k : Int)) = x - (k : Int) ∧ IntKind.i64.wrap ((x - (k : Int)).tdiv 4) = (x - (k : Int)).tdiv 4 ∧ IntKind.i64.wrap (s + (x - (k : Int)).tdiv 4) = s + (x - (k : Int)).tdiv 4 ∧ cntUp zs (k + 1) = s + (x - (k : Int)).tdiv 4 := by
  have h1 := cntUp_bounds h k (by omega)
  have h2 := loadZ_in h (11 + (k : Int))
  rw [hx] at h2
  rw [hs] at h1
  have h3 := quarter_bounds (x - (k : Int)) (by omega)
  refine ⟨IntWalk.i64_in _ (by omega), IntWalk.i64_in _ (by omega), IntWalk.i64_in _ (by omega), ?_⟩
  show cntUp zs k + (loadZ zs (11 + (k : Int)) - (k : Int)).tdiv 4 = _
  rw [hx, hs]

set_option maxHeartbeats 1000000 in
theorem implCount_any (A : Option Addr) (c : Nat) (zs : List Int) (w : World) (hn : zs.length ≤ 1048576) (hA : Rd w A zs) :
    Calls Try.prog 19 #[.agg #[.slice A zs.length c]] w fun e w' => e = .returned (.tuple #[.int .i64 (cntB zs), .int .i64 (cntCode zs)]) ∧ Below w.heap.size w w' := by
  have HA := Lib.hid (hA.below (below_alloc w (.cells #[.slice A zs.length c] 26))); clear hA
  cases ha : arenaB zs
  · obtain ⟨hv, hc⟩ := cnt_bad ha
    have HV := Lib.hid hv; have HC := Lib.hid hc; clear hv hc
    go_enter Try.func19, Try.ntmps19
    go_wp2_with fail
    refine (implArenaOK_any _ _ zs _ hn HA.out).mono ?_
    rintro e w1 ⟨rfl, hb⟩
    have HB := Lib.hid (below_trans (below_alloc _ _) hb)
    clear hb
    rw [ha]
    go_wp2
    refine bodyPost_ret (v := .tuple #[.int .i64 0, .int .i64 1]) (by simp [results, Try.results19, go_sem]) rfl ⟨by rw [HV.out, HC.out], HB.out⟩
  · have HR := Lib.hid ha
    obtain ⟨_, _, h0, hw⟩ := arenaB_parts ha
    obtain ⟨hv, hc⟩ := cnt_ok ha
    have HV := Lib.hid hv; have HC := Lib.hid hc; have H0 := Lib.hid h0; have HW := Lib.hid hw; clear hv hc h0 hw ha
    go_enter Try.func19, Try.ntmps19
    go_wp2_with fail
    refine (implArenaOK_any _ _ zs _ hn HA.out).mono ?_
    rintro e w1 ⟨rfl, hb⟩
    have HB := Lib.hid (below_trans (below_alloc _ _) hb)
    have HA1 := Lib.hid (HA.out.below hb)
    have hx1 : w1.cell? ⟨w.heap.size, 0, none⟩ = some (.slice A zs.length c) := cell_keep hb (by simp)
    clear hb HA
    rw [HR.out]
    go_wp2
    go_loopw [4, 9] (fun s i wr => ∃ k : Nat, k ≤ 4 ∧ i = .int .i64 k ∧ s = .int .i64 (cntUp zs k) ∧ wr.cell? ⟨w.heap.size, 0, none⟩ = some (.slice A zs.length c) ∧ Rd wr A zs ∧ Below w.heap.size w wr) (fun _ i _ => 4 - (intOf i).toNat)
    case atStart => exact ⟨0, by decide, rfl, rfl, hx1, HA1.out, HB.out⟩
    case round =>
      obtain ⟨k, hk, rfl, rfl, hx, hrd, hbw⟩ := hrel
      have HRD := Lib.hid hrd; have HBW := Lib.hid hbw
      clear hrd hbw
      by_cases hlt : k < 4
      · have hlt' : (k : Int) < 4 := by omega
        obtain ⟨x, hx9⟩ : ∃ x, loadZ zs (11 + (k : Int)) = x := ⟨_, rfl⟩
        obtain ⟨s, hs9⟩ : ∃ s, cntUp zs k = s := ⟨_, rfl⟩
        obtain ⟨q1, q2, q3, q4⟩ := cnt_round HW.out k hlt x s hx9 hs9
        have HX := Lib.hid hx9; have HQ := Lib.hid q4
        rw [hs9]
        clear hx9 q4 hs9
        have q5 : IntKind.i64.wrap (11 + (k : Int)) = 11 + (k : Int) := IntWalk.i64_in _ (by omega)
        go_wp2_with fail
        refine (cload_any _ _ zs _ _ hn H0.out HRD.out).mono ?_
        rintro e w2 ⟨rfl, hb⟩
        rw [HX.out]
        have hx2 : w2.cell? ⟨w.heap.size, 0, none⟩ = some (.slice A zs.length c) := cell_keep hb hx
        have HRD2 := Lib.hid (HRD.out.below hb)
        have HB2 := Lib.hid (below_trans HBW.out hb)
        clear hb
        go_wp2
        go_roundw
        case rel => exact ⟨k + 1, by omega, by go_num, by rw [HQ.out], hx2, HRD2.out, HB2.out⟩
        case measure => simp [intOf]; omega
      · obtain rfl : k = 4 := by omega
        obtain ⟨s, hs9⟩ : ∃ s, cntUp zs 4 = s := ⟨_, rfl⟩
        rw [hs9] at HV
        rw [hs9]
        clear hs9
        go_wp2
        refine bodyPost_ret (v := .tuple #[.int .i64 s, .int .i64 0]) (by simp [results, Try.results19, go_sem]) rfl ⟨by rw [HV.out, HC.out], HBW.out⟩

set_option maxHeartbeats 1000000 in
theorem l07Count_any (A : Option Addr) (c : Nat) (zs : List Int) (w : World) (hn : zs.length ≤ 1048576) (hr : arenaB zs = true) (hA : Rd w A zs) :
    Calls Try.prog 47 #[.agg #[.slice A zs.length c]] w fun e w' => e = .returned (.int .i64 (cntUp zs 4)) ∧ Below w.heap.size w w' := by
  have HA := Lib.hid (hA.below (below_alloc w (.cells #[.slice A zs.length c] 26))); clear hA
  obtain ⟨_, _, h0, hw⟩ := arenaB_parts hr
  have HW := Lib.hid hw; clear h0 hw hr
  go_enter Try.func47, Try.ntmps47
  go_wp2
  go_loopw [3, 4] (fun s i wr => ∃ k : Nat, k ≤ 4 ∧ i = .int .i64 k ∧ s = .int .i64 (cntUp zs k) ∧ wr.cell? ⟨w.heap.size, 0, none⟩ = some (.slice A zs.length c) ∧ Rd wr A zs ∧ Below w.heap.size w wr) (fun _ i _ => 4 - (intOf i).toNat)
  case atStart => exact ⟨0, by decide, rfl, rfl, by simp, HA.out, below_alloc _ _⟩
  case round =>
    obtain ⟨k, hk, rfl, rfl, hx, hrd, hbw⟩ := hrel
    have HRD := Lib.hid hrd; have HBW := Lib.hid hbw
    clear hrd hbw
    by_cases hlt : k < 4
    · have hlt' : (k : Int) < 4 := by omega
      obtain ⟨x, hx9⟩ : ∃ x, loadZ zs (11 + (k : Int)) = x := ⟨_, rfl⟩
      obtain ⟨s, hs9⟩ : ∃ s, cntUp zs k = s := ⟨_, rfl⟩
      obtain ⟨q1, q2, q3, q4⟩ := cnt_round HW.out k hlt x s hx9 hs9
      have HX := Lib.hid hx9; have HQ := Lib.hid q4
      rw [hs9]
      clear hx9 q4 hs9
      have q5 : IntKind.i64.wrap (11 + (k : Int)) = 11 + (k : Int) := IntWalk.i64_in _ (by omega)
      go_wp2_with fail
      refine (l01Load_any _ _ zs _ _ hn HRD.out).mono ?_
      rintro e w2 ⟨rfl, hb⟩
      rw [HX.out]
      have hx2 : w2.cell? ⟨w.heap.size, 0, none⟩ = some (.slice A zs.length c) := cell_keep hb hx
      have HRD2 := Lib.hid (HRD.out.below hb)
      have HB2 := Lib.hid (below_trans HBW.out hb)
      clear hb
      go_wp2
      go_roundw
      case rel => exact ⟨k + 1, by omega, by go_num, by rw [HQ.out], hx2, HRD2.out, HB2.out⟩
      case measure => simp [intOf]; omega
    · have hge : ¬ (k : Int) < 4 := by omega
      have HK : Hid (k = 4) := by unfold Hid; omega
      obtain ⟨s, hs9⟩ : ∃ s, cntUp zs k = s := ⟨_, rfl⟩
      rw [hs9]
      have HS : Hid (cntUp zs 4 = s) := by rw [← hs9, HK.out]; exact rfl
      clear hs9
      go_wp2
      go_ret
      exact ⟨by rw [HS.out]; rfl, HBW.out⟩

set_option maxHeartbeats 1000000 in
theorem specCount_any (A : Option Addr) (c : Nat) (zs : List Int) (w : World) (hn : zs.length ≤ 1048576) (hA : Rd w A zs) :
    Calls Try.prog 18 #[.agg #[.slice A zs.length c]] w fun e w' => e = .returned (.tuple #[.int .i64 (cntB zs), .int .i64 (cntCode zs)]) ∧ Below w.heap.size w w' := by
  have HA := Lib.hid (hA.below (below_alloc w (.cells #[.slice A zs.length c] 26))); clear hA
  cases ha : arenaB zs
  · obtain ⟨hv, hc⟩ := cnt_bad ha
    have HV := Lib.hid hv; have HC := Lib.hid hc; clear hv hc
    go_enter Try.func18, Try.ntmps18
    go_wp2_with fail
    refine (specArenaOK_any _ _ zs _ hn HA.out).mono ?_
    rintro e w1 ⟨rfl, hb⟩
    have HB := Lib.hid (below_trans (below_alloc _ _) hb)
    clear hb
    rw [ha]
    go_wp2
    refine bodyPost_ret (v := .tuple #[.int .i64 0, .int .i64 1]) (by simp [results, Try.results18, go_sem]) rfl ⟨by rw [HV.out, HC.out], HB.out⟩
  · have HR := Lib.hid ha
    obtain ⟨hv, hc⟩ := cnt_ok ha
    obtain ⟨s, hs⟩ : ∃ s, cntUp zs 4 = s := ⟨_, rfl⟩
    rw [hs] at hv
    have HV := Lib.hid hv; have HC := Lib.hid hc; have HS := Lib.hid hs; clear hv hc ha hs
    go_enter Try.func18, Try.ntmps18
    go_wp2_with fail
    refine (specArenaOK_any _ _ zs _ hn HA.out).mono ?_
    rintro e w1 ⟨rfl, hb⟩
    have HB := Lib.hid (below_trans (below_alloc _ _) hb)
    have HA1 := Lib.hid (HA.out.below hb)
    have hx1 : w1.cell? ⟨w.heap.size, 0, none⟩ = some (.slice A zs.length c) := cell_keep hb (by simp)
    clear hb HA
    rw [HR.out]
    go_wp2_with fail
    refine (l07Count_any _ _ zs _ hn HR.out HA1.out).mono ?_
    rintro e w2 ⟨rfl, hb⟩
    rw [HS.out]
    have HB2 := Lib.hid (below_trans HB.out hb)
    clear hb
    go_wp2
    refine bodyPost_ret (v := .tuple #[.int .i64 s, .int .i64 0]) (by simp [results, Try.results18, go_sem]) rfl ⟨by rw [HV.out, HC.out], HB2.out⟩
end Go.Proofs.Ytjddmdhoeampcaa
