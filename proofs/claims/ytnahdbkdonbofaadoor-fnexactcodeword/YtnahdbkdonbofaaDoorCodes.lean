/-
  Contracts of the functions about codes (chapter 1), over the table of words.
-/
import Derived.Test.YtnahdbkdonbofaaDoorRows
import Derived.WalkKit
import Derived.WalkSpells
import Derived.Lib.Hide
import Derived.OpenShut
import Derived.LaidLaws
namespace Go.Proofs.YtnahdbkdonbofaaDoor
open Go.RowKit

theorem ret_int {k : IntKind} {a b : Int} (h : a = b) : Ending.returned (.int k a) = .returned (.int k b) := by rw [h]

/-- The twenty words. -/
def wordList : List (List UInt8) := [[111, 107], [98, 97, 100], [108, 111, 110, 103], [102, 111, 114, 109], [114, 97, 110, 103, 101], [110, 111, 110, 101], [109, 97, 110, 121], [102, 117, 108, 108], [115, 105, 122, 101], [98, 117, 115, 121], [105, 100, 108, 101], [112, 97, 114, 107, 101, 100], [116, 105, 109, 101, 111, 117, 116], [99, 97, 110, 99, 101, 108, 108, 101, 100], [101, 109, 112, 116, 121], [114, 101, 97, 100, 121], [111, 114, 100, 101, 114], [112, 97, 105, 114], [111, 112, 101, 110], [115, 116, 117, 99, 107]]
/-- The word at a place, as a text. -/
def wordStr (k : Nat) : ByteArray := ⟨(wordList.getD k []).toArray⟩
def wordCells : Array Value := #[.string (wordStr 0), .string (wordStr 1), .string (wordStr 2), .string (wordStr 3), .string (wordStr 4), .string (wordStr 5), .string (wordStr 6), .string (wordStr 7), .string (wordStr 8), .string (wordStr 9), .string (wordStr 10), .string (wordStr 11), .string (wordStr 12), .string (wordStr 13), .string (wordStr 14), .string (wordStr 15), .string (wordStr 16), .string (wordStr 17), .string (wordStr 18), .string (wordStr 19)]
/-- The word of a code: the empty text of any other number. -/
def wordOf (n : Int) : ByteArray := if 0 ≤ n ∧ n < 20 then wordStr n.toNat else ⟨#[]⟩
/-- The table, as block 0 holds it. -/
def Tab (w : World) : Prop := ∀ k, k < 20 → w.cell? ⟨0, k, none⟩ = some (.string (wordStr k))

theorem twenty {n : Int} (h : 0 ≤ n ∧ n < 20) : n = 0 ∨ n = 1 ∨ n = 2 ∨ n = 3 ∨ n = 4 ∨ n = 5 ∨ n = 6 ∨ n = 7 ∨ n = 8 ∨ n = 9 ∨ n = 10 ∨ n = 11 ∨ n = 12 ∨ n = 13 ∨ n = 14 ∨ n = 15 ∨ n = 16 ∨ n = 17 ∨ n = 18 ∨ n = 19 := by omega
theorem ret_str {a b : ByteArray} (h : a = b) : Ending.returned (.string a) = .returned (.string b) := by rw [h]

set_option maxHeartbeats 4000000 in
theorem specCodeWord_any (n : Int) (w : World) : Calls Tryd.prog 5 #[.int .i64 n] w fun e w' => e = .returned (.string (wordOf n)) ∧ Below w.heap.size w w' := by
  by_cases h : 0 ≤ n ∧ n < 20
  · rcases twenty h with rfl | rfl | rfl | rfl | rfl | rfl | rfl | rfl | rfl | rfl | rfl | rfl | rfl | rfl | rfl | rfl | rfl | rfl | rfl | rfl
    all_goals
      clear h
      go_enter Tryd.func5, Tryd.ntmps5
      go_wp2
      go_ret
      exact ⟨ret_str rfl, (Below.refl _ _).alloc (Nat.le_refl _) _⟩
  · have HV : Hid (wordOf n = ⟨#[]⟩) := by unfold wordOf; rw [if_neg h]; rfl
    by_cases h0 : n < 0
    · clear h
      go_enter Tryd.func5, Tryd.ntmps5
      go_wp2
      go_ret
      exact ⟨ret_str HV.out.symm, (Below.refl _ _).alloc (Nat.le_refl _) _⟩
    · have h1 : 20 ≤ n := by omega
      clear h
      go_enter Tryd.func5, Tryd.ntmps5
      go_wp2
      go_ret
      exact ⟨ret_str HV.out.symm, (Below.refl _ _).alloc (Nat.le_refl _) _⟩

set_option maxHeartbeats 4000000 in
theorem implCodeWord_any (n : Int) (w : World) (ht : Tab w) : Calls Tryd.prog 6 #[.int .i64 n] w fun e w' => e = .returned (.string (wordOf n)) ∧ w = w' := by
  by_cases h : 0 ≤ n ∧ n < 20
  · obtain ⟨k, rfl⟩ := Int.eq_ofNat_of_zero_le h.1
    have hk : k < 20 := by omega
    have HV : Hid (wordOf k = wordStr k) := by unfold wordOf; rw [if_pos h, Int.toNat_natCast]; rfl
    have hc := ht k hk
    clear ht h
    go_enter Tryd.func6, Tryd.ntmps6
    go_wp2
    go_ret
    exact ⟨ret_str HV.out.symm, rfl⟩
  · have HV : Hid (wordOf n = ⟨#[]⟩) := by unfold wordOf; rw [if_neg h]; rfl
    clear ht
    by_cases h0 : n < 0
    · clear h
      go_enter Tryd.func6, Tryd.ntmps6
      go_wp2
      go_ret
      exact ⟨ret_str HV.out.symm, rfl⟩
    · have h1 : 20 ≤ n := by omega
      clear h
      go_enter Tryd.func6, Tryd.ntmps6
      go_wp2
      go_ret
      exact ⟨ret_str HV.out.symm, rfl⟩
end Go.Proofs.YtnahdbkdonbofaaDoor
