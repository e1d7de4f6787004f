/-
  Contracts: writeFault, StoreCell of the program; l01Load, l01Store, StoreCell of the model (chapter 2).
-/
import Derived.Test.YtodniogcpeadpaaAppend
import Derived.Test.YtodniogcpeadpaaLoad
namespace Go.Proofs.Ytodniogcpeadpaa
open Go.RowKit

def writeCode (zs : List Int) (p v : Int) : Int := if cellCode zs p = 0 then (if wordB v = true then 0 else 4) else cellCode zs p
def storeZs (zs : List Int) (p v : Int) : List Int := if writeCode zs p v = 0 then zs.set p.toNat v else []
theorem writeCode_zero {zs : List Int} {p v : Int} (h : writeCode zs p v = 0) : cellCode zs p = 0 ∧ wordB v = true := by
  unfold writeCode at h
  by_cases h1 : cellCode zs p = 0
  · rw [if_pos h1] at h
    cases hw : wordB v
    · rw [hw] at h; simp at h
    · exact ⟨h1, rfl⟩
  · rw [if_neg h1] at h; exact absurd h h1

/-- What a struct result of the model's and the program's looks like: an arena and a code. -/
theorem ret_agg_int {k : IntKind} {v : Value} {a b : Int} (h : a = b) : Ending.returned (.tuple #[.agg #[v], .int k a]) = .returned (.tuple #[.agg #[v], .int k b]) := by rw [h]

set_option maxHeartbeats 1000000 in
theorem writeFault_any (A : Option Addr) (c : Nat) (zs : List Int) (p v : Int) (w : World) (hn : zs.length ≤ 1048576) (hA : Rd w A zs) :
    Calls Try.prog 109 #[.agg #[.slice A zs.length c], .int .i64 p, .int .i64 v] w fun e w' => e = .returned (.int .i64 (writeCode zs p v)) ∧ Below w.heap.size w w' := by
  have HA := Lib.hid (hA.below (below_alloc w (.cells #[.slice A zs.length c] 29))); clear hA
  cases hz : (cellCode zs p != 0)
  · have h0 : cellCode zs p = 0 := by simpa using hz
    cases hw : wordB v
    · have HC : Hid (writeCode zs p v = 4) := by unfold writeCode; rw [if_pos h0, hw]; rfl
      clear h0
      go_enter Try.func109, Try.ntmps109
      go_wp2_with fail
      refine (cellFault_any _ _ zs _ _ hn HA.out).mono ?_
      rintro e w' ⟨rfl, hb⟩
      have HB := Lib.hid hb; clear hb
      go_wp2_with (go_at_call 101; refine (wordOK_any _ _).mono ?_; rintro e w' ⟨rfl, rfl⟩)
      go_ret
      exact ⟨ret_int HC.out.symm, below_trans (below_alloc _ _) HB.out⟩
    · have HC : Hid (writeCode zs p v = 0) := by unfold writeCode; rw [if_pos h0, hw]; rfl
      clear h0
      go_enter Try.func109, Try.ntmps109
      go_wp2_with fail
      refine (cellFault_any _ _ zs _ _ hn HA.out).mono ?_
      rintro e w' ⟨rfl, hb⟩
      have HB := Lib.hid hb; clear hb
      go_wp2_with (go_at_call 101; refine (wordOK_any _ _).mono ?_; rintro e w' ⟨rfl, rfl⟩)
      go_ret
      exact ⟨ret_int HC.out.symm, below_trans (below_alloc _ _) HB.out⟩
  · have HC : Hid (writeCode zs p v = cellCode zs p) := by unfold writeCode; rw [if_neg (by simpa using hz)]; rfl
    go_enter Try.func109, Try.ntmps109
    go_wp2_with fail
    refine (cellFault_any _ _ zs _ _ hn HA.out).mono ?_
    rintro e w' ⟨rfl, hb⟩
    have HB := Lib.hid hb; clear hb
    go_wp2
    go_ret
    exact ⟨ret_int HC.out.symm, below_trans (below_alloc _ _) HB.out⟩

set_option maxHeartbeats 1000000 in
theorem implStoreCell_any (A : Option Addr) (c : Nat) (zs : List Int) (p v : Int) (w : World) (hn : zs.length ≤ 1048576) (hA : Rd w A zs) :
    Calls Try.prog 100 #[.agg #[.slice A zs.length c], .int .i64 p, .int .i64 v] w fun e w' => ∃ B d, e = .returned (.tuple #[.agg #[.slice B (storeZs zs p v).length d], .int .i64 (writeCode zs p v)]) ∧
      NewA w.heap.size w' B d (storeZs zs p v) ∧ Below w.heap.size w w' := by
  have HA := Lib.hid (hA.below (below_alloc2 w (.cells #[.slice A zs.length c] 29) (.cells #[.slice none 0 0] 29))); clear hA
  cases hz : (writeCode zs p v != 0)
  · have h0 : writeCode zs p v = 0 := by simpa using hz
    obtain ⟨hcc, hww⟩ := writeCode_zero h0
    obtain ⟨_, h1, h2⟩ := cellCode_zero hcc
    obtain ⟨k, rfl⟩ := Int.eq_ofNat_of_zero_le (by omega : 0 ≤ p)
    have hk : k < zs.length := by omega
    have HV : Hid (storeZs zs k v = zs.set k v) := by unfold storeZs; rw [if_pos h0, Int.toNat_natCast]; rfl
    have HC := Lib.hid h0; clear h0 hcc hww
    go_enter Try.func100, Try.ntmps100
    go_wp2_with fail
    refine (writeFault_any _ _ zs _ _ _ hn HA.out).mono ?_
    rintro e w1 ⟨rfl, hb⟩
    have HB := Lib.hid (below_trans (below_alloc2 _ _ _) hb)
    have HA1 := Lib.hid (HA.out.below hb)
    have hz1 : w.heap.size + 1 < w1.heap.size := by have := hb.size; simp at this; omega
    have hx1 : w1.cell? ⟨w.heap.size, 0, none⟩ = some (.slice A zs.length c) := cell_keep hb (by simp)
    have hr1 : w1.cell? ⟨w.heap.size + 1, 0, none⟩ = some (.slice none 0 0) := cell_keep hb (by simp)
    have hf1 : w1.frozen? ⟨w.heap.size + 1, 0, none⟩ = false := by rw [hb.frozen (p := ⟨w.heap.size + 1, 0, none⟩) (by simp)]; simp
    clear hb
    go_wp2_with fail
    refine (list_any _ _ _ _).mono ?_
    rintro e w2 ⟨rfl, hb⟩
    have HB2 := Lib.hid (below_trans HB.out hb)
    have HA2 := Lib.hid (HA1.out.below hb)
    have hz2 : w.heap.size + 1 < w2.heap.size := by have := hb.size; omega
    have hr2 : w2.cell? ⟨w.heap.size + 1, 0, none⟩ = some (.slice none 0 0) := cell_keep hb hr1
    have hf2 : w2.frozen? ⟨w.heap.size + 1, 0, none⟩ = false := by rw [hb.frozen (p := ⟨w.heap.size + 1, 0, none⟩) hz1]; exact hf1
    clear hb hx1 hr1 hf1 hz1 HB HA1
    go_wp2_with fail
    refine (with_any _ _ k v zs _ hn hk HA2.out).mono ?_
    rintro e w3 ⟨rfl, hown, hb⟩
    have HB3 := Lib.hid (below_trans HB2.out hb)
    have hr3 : w3.cell? ⟨w.heap.size + 1, 0, none⟩ = some (.slice none 0 0) := cell_keep hb hr2
    have hf3 : w3.frozen? ⟨w.heap.size + 1, 0, none⟩ = false := by rw [hb.frozen (p := ⟨w.heap.size + 1, 0, none⟩) hz2]; exact hf2
    have hl : (zs.set k v).length = zs.length := by simp
    have HO : Hid (NewA w2.heap.size w3 (some ⟨w2.heap.size, 0, none⟩) zs.length (zs.set k v)) := by unfold NewA; rw [hl]; exact hown
    have HL := Lib.hid hl
    clear hb hown hr2 hf2 HB2 HA2 hl
    go_wp2
    refine bodyPost_ret (v := .tuple #[.agg #[.slice (some ⟨w2.heap.size, 0, none⟩) zs.length zs.length], .int .i64 0]) (by simp [results, Try.results100, go_sem, hr3]) rfl ⟨some ⟨w2.heap.size, 0, none⟩, zs.length, ?_, ?_, HB3.out.setCell (by simp) _⟩
    · rw [HV.out, HL.out]; exact ret_agg_int HC.out.symm
    · rw [HV.out]
      exact (HO.out.setCell (by simp <;> omega) _).base (by omega)
  · have HV : Hid (storeZs zs p v = []) := by unfold storeZs; rw [if_neg (by simpa using hz)]; rfl
    go_enter Try.func100, Try.ntmps100
    go_wp2_with fail
    refine (writeFault_any _ _ zs _ _ _ hn HA.out).mono ?_
    rintro e w1 ⟨rfl, hb⟩
    have HB := Lib.hid (below_trans (below_alloc2 _ _ _) hb)
    have hr1 : w1.cell? ⟨w.heap.size + 1, 0, none⟩ = some (.slice none 0 0) := cell_keep hb (by simp)
    have hf1 : w1.frozen? ⟨w.heap.size + 1, 0, none⟩ = false := by rw [hb.frozen (p := ⟨w.heap.size + 1, 0, none⟩) (by simp)]; simp
    clear hb
    go_wp2
    refine bodyPost_ret (v := .tuple #[.agg #[.slice none 0 0], .int .i64 (writeCode zs p v)]) (by simp [results, Try.results100, go_sem, hr1]) rfl ⟨none, 0, ?_, ?_, HB.out.setCell (by simp) _⟩
    · rw [HV.out]; rfl
    · rw [HV.out]; exact NewA.nil _ _
end Go.Proofs.Ytodniogcpeadpaa
