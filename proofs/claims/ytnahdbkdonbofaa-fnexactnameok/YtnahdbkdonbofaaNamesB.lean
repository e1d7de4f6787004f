/-
  The model's function about names, and the law's walk (chapter 1).
-/
import Derived.Test.YtnahdbkdonbofaaNames
namespace Go.Proofs.Ytnahdbkdonbofaa
open Go.RowKit

theorem all_one (s : ByteArray) (h : 0 < s.size) (hl : letB (s[0].toNat : Int) = true) : (s.data.toList.take 1).all okB = true := by
  have := all_snoc s 0 h (by simp) (by simp [okB, hl])
  simpa using this

set_option maxHeartbeats 1000000 in
theorem l00Word_any (s : ByteArray) (w : World) (hs : s.size ≤ maxLen) :
    Calls Try.prog 64 #[.string s] w fun e w' => e = .returned (.bool (nameB s.data.toList)) ∧ w = w' := by
  unfold maxLen at hs
  have hsz : s.data.toList.length = s.size := by simp
  have HZ := Lib.hid hsz; clear hsz
  by_cases h1 : s.size < 1
  · have hn := Lib.hid (nameB_false (l := s.data.toList) (.inl (by rw [HZ.out]; omega)))
    go_enter Try.func64, Try.ntmps64
    go_wp2
    go_ret
    exact ⟨ret_bool hn.out.symm, rfl⟩
  by_cases h2 : 40 < s.size
  · have hn := Lib.hid (nameB_false (l := s.data.toList) (.inr (.inl (by rw [HZ.out]; omega))))
    go_enter Try.func64, Try.ntmps64
    go_wp2
    go_ret
    exact ⟨ret_bool hn.out.symm, rfl⟩
  have hp : 0 < s.size := by omega
  have hl1 : decide (s.size < 1) = false := decide_eq_false (by omega)
  have hl2 : decide (40 < s.size) = false := decide_eq_false (by omega)
  have hF := Lib.hid (first_byte s hp)
  cases hd : letB (s[0].toNat : Int)
  · have hn : Hid (nameB s.data.toList = false) := by
      refine nameB_false (.inr (.inr (.inl ?_)))
      rw [hF.out]; exact hd
    go_enter Try.func64, Try.ntmps64
    go_wp2_with (go_at_call 75; refine (l00Letter_any _ _).mono ?_; rintro e w' ⟨rfl, rfl⟩)
    go_ret
    exact ⟨ret_bool hn.out.symm, rfl⟩
  · have H1 := Lib.hid (all_one s hp hd)
    go_enter Try.func64, Try.ntmps64
    go_wp2_with (go_at_call 75; refine (l00Letter_any _ _).mono ?_; rintro e w' ⟨rfl, rfl⟩)
    have HD := Lib.hid hd; clear hd
    go_loop [3] (fun i => ∃ k : Nat, 1 ≤ k ∧ k ≤ s.size ∧ i = .int .i64 k ∧ (s.data.toList.take k).all okB = true) (fun i => s.size - (intOf i).toNat)
    case atStart => exact ⟨1, Nat.le_refl _, by omega, rfl, H1.out⟩
    case round =>
      obtain ⟨k, hk1, hk, rfl, hall⟩ := hrel
      have HA := Lib.hid hall; clear hall
      by_cases hlt : k < s.size
      · by_cases hok : okB s[k] = true
        · have HR := Lib.hid (all_snoc s k hlt HA.out hok)
          cases hle : letB (s[k].toNat : Int)
          · have hdg : digB (s[k].toNat : Int) = true := by simpa [okB, hle] using hok
            clear hok
            go_wp2_with (first | (go_at_call 76; refine (l00Digit_any _ _).mono ?_; rintro e w' ⟨rfl, rfl⟩) | (go_at_call 75; refine (l00Letter_any _ _).mono ?_; rintro e w' ⟨rfl, rfl⟩))
            go_round
            case rel => exact ⟨k + 1, by omega, by omega, by go_num, HR.out⟩
            case measure => simp [intOf]; omega
          · clear hok
            go_wp2_with (first | (go_at_call 76; refine (l00Digit_any _ _).mono ?_; rintro e w' ⟨rfl, rfl⟩) | (go_at_call 75; refine (l00Letter_any _ _).mono ?_; rintro e w' ⟨rfl, rfl⟩))
            go_round
            case rel => exact ⟨k + 1, by omega, by omega, by go_num, HR.out⟩
            case measure => simp [intOf]; omega
        · have hok' : okB s[k] = false := by simpa using hok
          have HN := Lib.hid (nameB_false (l := s.data.toList) (.inr (.inr (.inr (not_all s k hlt hok')))))
          have hle : letB (s[k].toNat : Int) = false := by simp [okB] at hok'; exact hok'.1
          have hdg : digB (s[k].toNat : Int) = false := by simp [okB] at hok'; exact hok'.2
          clear hok hok'
          go_wp2_with (first | (go_at_call 76; refine (l00Digit_any _ _).mono ?_; rintro e w' ⟨rfl, rfl⟩) | (go_at_call 75; refine (l00Letter_any _ _).mono ?_; rintro e w' ⟨rfl, rfl⟩))
          go_ret
          exact ⟨ret_bool HN.out.symm, rfl⟩
      · have HN : Hid (nameB s.data.toList = true) := by
          have hk' : s.data.toList.all okB = true := by
            have := HA.out; rwa [List.take_of_length_le (by rw [HZ.out]; omega)] at this
          refine nameB_true (by rw [HZ.out]; omega) (by rw [HZ.out]; omega) ?_ hk'
          rw [hF.out]
          exact HD.out
        go_wp2
        go_ret
        exact ⟨ret_bool HN.out.symm, rfl⟩

set_option maxHeartbeats 400000 in
theorem specNameOK_any (s : ByteArray) (w : World) (hs : s.size ≤ maxLen) :
    Calls Try.prog 31 #[.string s] w fun e w' => e = .returned (.bool (nameB s.data.toList)) ∧ w = w' := by
  go_enter Try.func31, Try.ntmps31
  go_wp2_with (go_at_call 64; refine (l00Word_any _ _ hs).mono ?_; rintro e w' ⟨rfl, rfl⟩)
  go_ret
  exact ⟨rfl, rfl⟩

set_option maxHeartbeats 400000 in
theorem lawNameOK_walk (s : ByteArray) (w : World) (hs : s.size ≤ maxLen) :
    Calls Try.prog 7 #[.string s] w fun e w' => e = .returned (.bool true) ∧ w = w' := by
  by_cases hbig : (1048576 : Int) < (s.size : Int)
  · go_enter Try.func7, Try.ntmps7
    go_wp2
    go_ret
    exact ⟨rfl, rfl⟩
  · cases hn : nameB s.data.toList
    all_goals
      have h1 := specNameOK_any s w hs
      have h2 := implNameOK_any s w hs
      rw [hn] at h1 h2
      have H1 := Lib.hid h1; have H2 := Lib.hid h2; clear h1 h2 hn
      go_enter Try.func7, Try.ntmps7
      go_wp2_with (first | (go_at_call 31; refine H1.out.mono ?_; rintro e w' ⟨rfl, rfl⟩) | (go_at_call 32; refine H2.out.mono ?_; rintro e w' ⟨rfl, rfl⟩))
      go_ret
      exact ⟨rfl, rfl⟩
end Go.Proofs.Ytnahdbkdonbofaa
