/-
  Contracts of the functions about names (chapter 1).
-/
import Derived.Test.YtnahdbkdonbofaaRows
import Derived.WalkKit
import Derived.WalkSpells
import Derived.Lib.Hide
namespace Go.Proofs.Ytnahdbkdonbofaa
open Go.RowKit

theorem ret_bool {a b : Bool} (h : a = b) : Ending.returned (.bool a) = .returned (.bool b) := by rw [h]

def letB (n : Int) : Bool := (decide (97 ≤ n) && decide (n ≤ 122)) || ((decide (65 ≤ n) && decide (n ≤ 90)) || n == 95)
def digB (n : Int) : Bool := decide (48 ≤ n) && decide (n ≤ 57)
theorem dig_of_let (n : Int) (h : letB n = true) : digB n = false := by
  simp [letB, digB] at *; omega

set_option maxHeartbeats 400000 in
theorem isDigit_any (n : Int) (w : World) : Calls Try.prog 65 #[.int .u8 n] w fun e w' => e = .returned (.bool (digB n)) ∧ w = w' := by
  unfold digB
  by_cases h1 : 48 ≤ n <;> by_cases h2 : n ≤ 57
  all_goals
    go_enter Try.func65, Try.ntmps65
    go_wp2
    go_ret
    exact ⟨by simp [h1, h2], rfl⟩

set_option maxHeartbeats 400000 in
theorem l00Digit_any (n : Int) (w : World) : Calls Try.prog 76 #[.int .u8 n] w fun e w' => e = .returned (.bool (digB n)) ∧ w = w' := by
  unfold digB
  by_cases h1 : 48 ≤ n <;> by_cases h2 : n ≤ 57
  all_goals
    go_enter Try.func76, Try.ntmps76
    go_wp2
    go_ret
    exact ⟨by simp [h1, h2], rfl⟩
set_option maxHeartbeats 1000000 in
theorem isLetter_any (n : Int) (w : World) : Calls Try.prog 66 #[.int .u8 n] w fun e w' => e = .returned (.bool (letB n)) ∧ w = w' := by
  unfold letB
  go_enter Try.func66, Try.ntmps66
  go_wp2
  all_goals
    go_ret
    exact ⟨ret_bool (by first | rfl | (rw [Bool.eq_iff_iff]; simp <;> omega)), rfl⟩
set_option maxHeartbeats 1000000 in
theorem l00Letter_any (n : Int) (w : World) : Calls Try.prog 75 #[.int .u8 n] w fun e w' => e = .returned (.bool (letB n)) ∧ w = w' := by
  unfold letB
  go_enter Try.func75, Try.ntmps75
  go_wp2
  all_goals
    go_ret
    exact ⟨ret_bool (by first | rfl | (rw [Bool.eq_iff_iff]; simp <;> omega)), rfl⟩

/-- The bytes of a name behind its first. -/
def okB (c : UInt8) : Bool := letB c.toNat || digB c.toNat
def nameB (l : List UInt8) : Bool := decide (1 ≤ l.length) && decide (l.length ≤ 40) && letB ((l.getD 0 0).toNat) && l.all okB

theorem take_snoc (s : ByteArray) (k : Nat) (h : k < s.size) : s.data.toList.take (k + 1) = s.data.toList.take k ++ [s[k]] := by
  rw [List.take_succ_eq_append_getElem (by simpa using h)]; rfl
theorem all_snoc (s : ByteArray) (k : Nat) (h : k < s.size) (hk : (s.data.toList.take k).all okB = true) (ho : okB s[k] = true) : (s.data.toList.take (k + 1)).all okB = true := by
  rw [take_snoc s k h, List.all_append, hk]; simp [ho]
theorem not_all (s : ByteArray) (k : Nat) (h : k < s.size) (ho : okB s[k] = false) : s.data.toList.all okB = false := by
  rw [List.all_eq_false]
  exact ⟨s[k], by simp [ByteArray.getElem_eq_getElem_data], by simp [ho]⟩

theorem nameB_false {l : List UInt8} (h : l.length < 1 ∨ 40 < l.length ∨ letB ((l.getD 0 0).toNat) = false ∨ l.all okB = false) : nameB l = false := by
  unfold nameB
  rcases h with h | h | h | h
  · simp; omega
  · simp; omega
  · simp only [h, Bool.and_false, Bool.false_and]
  · simp only [h, Bool.and_false, Bool.false_and]
theorem nameB_true {l : List UInt8} (h1 : 1 ≤ l.length) (h2 : l.length ≤ 40) (h3 : letB ((l.getD 0 0).toNat) = true) (h4 : l.all okB = true) : nameB l = true := by
  unfold nameB
  rw [h3, h4]; simp; omega
theorem first_byte (s : ByteArray) (h : 0 < s.size) : s.data.toList.getD 0 0 = s[0] := by
  have : 0 < s.data.toList.length := by simpa using h
  rw [List.getD, List.getElem?_eq_getElem this]; rfl
theorem first_mem (s : ByteArray) (h : 0 < s.size) : s[0] ∈ s.data.toList := by
  have : 0 < s.data.toList.length := by simpa using h
  have e : s[0] = s.data.toList[0] := rfl
  rw [e]; exact List.getElem_mem _

set_option maxHeartbeats 1000000 in
theorem implNameOK_any (s : ByteArray) (w : World) (hs : s.size ≤ maxLen) :
    Calls Try.prog 32 #[.string s] w fun e w' => e = .returned (.bool (nameB s.data.toList)) ∧ w = w' := by
  unfold maxLen at hs
  have hsz : s.data.toList.length = s.size := by simp
  have HZ := Lib.hid hsz; clear hsz
  by_cases h1 : s.size < 1
  · have hn := Lib.hid (nameB_false (l := s.data.toList) (.inl (by rw [HZ.out]; omega)))
    go_enter Try.func32, Try.ntmps32
    go_wp2
    go_ret
    exact ⟨ret_bool hn.out.symm, rfl⟩
  by_cases h2 : 40 < s.size
  · have hn := Lib.hid (nameB_false (l := s.data.toList) (.inr (.inl (by rw [HZ.out]; omega))))
    go_enter Try.func32, Try.ntmps32
    go_wp2
    go_ret
    exact ⟨ret_bool hn.out.symm, rfl⟩
  have hp : 0 < s.size := by omega
  have hl1 : decide (s.size < 1) = false := decide_eq_false (by omega)
  have hl2 : decide (40 < s.size) = false := decide_eq_false (by omega)
  have hF := Lib.hid (first_byte s hp)
  cases hd : digB (s[0].toNat : Int)
  · go_enter Try.func32, Try.ntmps32
    go_wp2_with (go_at_call 65; refine (isDigit_any _ _).mono ?_; rintro e w' ⟨rfl, rfl⟩)
    have HD := Lib.hid hd; clear hd
    go_loop [3] (fun i => ∃ k : Nat, k ≤ s.size ∧ i = .int .i64 k ∧ (s.data.toList.take k).all okB = true) (fun i => s.size - (intOf i).toNat)
    case atStart => exact ⟨0, Nat.zero_le _, rfl, rfl⟩
    case round =>
      obtain ⟨k, hk, rfl, hall⟩ := hrel
      have HA := Lib.hid hall; clear hall
      by_cases hlt : k < s.size
      · by_cases hok : okB s[k] = true
        · have HR := Lib.hid (all_snoc s k hlt HA.out hok)
          cases hle : letB (s[k].toNat : Int)
          · have hdg : digB (s[k].toNat : Int) = true := by simpa [okB, hle] using hok
            clear hok
            go_wp2_with (first | (go_at_call 65; refine (isDigit_any _ _).mono ?_; rintro e w' ⟨rfl, rfl⟩) | (go_at_call 66; refine (isLetter_any _ _).mono ?_; rintro e w' ⟨rfl, rfl⟩))
            go_round
            case rel => exact ⟨k + 1, by omega, by go_num, HR.out⟩
            case measure => simp [intOf]; omega
          · clear hok
            go_wp2_with (first | (go_at_call 65; refine (isDigit_any _ _).mono ?_; rintro e w' ⟨rfl, rfl⟩) | (go_at_call 66; refine (isLetter_any _ _).mono ?_; rintro e w' ⟨rfl, rfl⟩))
            go_round
            case rel => exact ⟨k + 1, by omega, by go_num, HR.out⟩
            case measure => simp [intOf]; omega
        · have hok' : okB s[k] = false := by simpa using hok
          have HN := Lib.hid (nameB_false (l := s.data.toList) (.inr (.inr (.inr (not_all s k hlt hok')))))
          have hle : letB (s[k].toNat : Int) = false := by simp [okB] at hok'; exact hok'.1
          have hdg : digB (s[k].toNat : Int) = false := by simp [okB] at hok'; exact hok'.2
          clear hok hok'
          go_wp2_with (first | (go_at_call 65; refine (isDigit_any _ _).mono ?_; rintro e w' ⟨rfl, rfl⟩) | (go_at_call 66; refine (isLetter_any _ _).mono ?_; rintro e w' ⟨rfl, rfl⟩))
          go_ret
          exact ⟨ret_bool HN.out.symm, rfl⟩
      · have HN : Hid (nameB s.data.toList = true) := by
          have hk' : s.data.toList.all okB = true := by
            have := HA.out; rwa [List.take_of_length_le (by rw [HZ.out]; omega)] at this
          refine nameB_true (by rw [HZ.out]; omega) (by rw [HZ.out]; omega) ?_ hk'
          have h0 : okB s[0] = true := by
            rw [List.all_eq_true] at hk'
            exact hk' _ (first_mem s hp)
          rw [hF.out]
          have := HD.out
          simpa [okB, this] using h0
        go_wp2
        go_ret
        exact ⟨ret_bool HN.out.symm, rfl⟩
  · have hn : Hid (nameB s.data.toList = false) := by
      refine nameB_false (.inr (.inr (.inl ?_)))
      rw [hF.out]
      cases hl : letB (s[0].toNat : Int)
      · rfl
      · have := dig_of_let _ hl; rw [hd] at this; cases this
    go_enter Try.func32, Try.ntmps32
    go_wp2_with (go_at_call 65; refine (isDigit_any _ _).mono ?_; rintro e w' ⟨rfl, rfl⟩)
    go_ret
    exact ⟨ret_bool hn.out.symm, rfl⟩
end Go.Proofs.Ytnahdbkdonbofaa
