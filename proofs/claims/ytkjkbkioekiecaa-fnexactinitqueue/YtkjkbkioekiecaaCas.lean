/-
  Contracts: CasCell of the program; l01Cas, CasCell of the model (chapter 2).
-/
import Derived.Test.YtkjkbkioekiecaaStoreB
namespace Go.Proofs.Ytkjkbkioekiecaa
open Go.RowKit

def casB (zs : List Int) (p old v : Int) : Bool := (writeCode zs p v == 0) && (zs.getD p.toNat 0 == old)
def casZs (zs : List Int) (p old v : Int) : List Int := if writeCode zs p v = 0 then (if (zs.getD p.toNat 0 == old) = true then zs.set p.toNat v else zs) else []
theorem casZs_len (zs : List Int) (p old v : Int) : (casZs zs p old v).length ≤ zs.length := by
  unfold casZs; split
  · split <;> simp
  · simp
theorem ret_agg_bool_int {k : IntKind} {v : Value} {b b' : Bool} {x y : Int} (h : x = y) (hb : b = b') : Ending.returned (.tuple #[.agg #[v], .bool b, .int k x]) = .returned (.tuple #[.agg #[v], .bool b', .int k y]) := by rw [h, hb]
theorem ret_agg_int_int {k : IntKind} {v : Value} {b b' : Int} {x y : Int} (h : x = y) (hb : b = b') : Ending.returned (.tuple #[.agg #[v], .int k b, .int k x]) = .returned (.tuple #[.agg #[v], .int k b', .int k y]) := by rw [h, hb]

set_option maxHeartbeats 1000000 in
theorem implCasCell_any (A : Option Addr) (c : Nat) (zs : List Int) (p old v : Int) (w : World) (hn : zs.length ≤ 1048576) (hA : Rd w A zs) :
    Calls Try.prog 111 #[.agg #[.slice A zs.length c], .int .i64 p, .int .i64 old, .int .i64 v] w fun e w' => ∃ B d, e = .returned (.tuple #[.agg #[.slice B (casZs zs p old v).length d], .bool (casB zs p old v), .int .i64 (writeCode zs p v)]) ∧
      NewA w.heap.size w' B d (casZs zs p old v) ∧ Below w.heap.size w w' := by
  have HA := Lib.hid (hA.below (below_alloc2 w (.cells #[.slice A zs.length c] 32) (.cells #[.slice none 0 0] 32))); clear hA
  cases hz : (writeCode zs p v != 0)
  · have h0 : writeCode zs p v = 0 := by simpa using hz
    obtain ⟨hcc, hww⟩ := writeCode_zero h0
    obtain ⟨_, h1, h2⟩ := cellCode_zero hcc
    obtain ⟨k, rfl⟩ := Int.eq_ofNat_of_zero_le (by omega : 0 ≤ p)
    have hk : k < zs.length := by omega
    have HC := Lib.hid h0; clear hcc hww
    cases he : (zs.getD k 0 == old)
    · have HV : Hid (casZs zs k old v = zs) := by unfold casZs; rw [if_pos h0, Int.toNat_natCast, he]; rfl
      have HD : Hid (casB zs k old v = false) := by unfold casB; rw [Int.toNat_natCast, he, Bool.and_false]; rfl
      clear h0
      go_enter Try.func111, Try.ntmps111
      go_wp2_with fail
      refine (writeFault_any _ _ zs _ _ _ hn HA.out).mono ?_
      rintro e w1 ⟨rfl, hb⟩
      have HB := Lib.hid (below_trans (below_alloc2 _ _ _) hb)
      have HA1 := Lib.hid (HA.out.below hb)
      have hz1 : w.heap.size + 1 < w1.heap.size := by have := hb.size; simp at this; omega
      have hx1 : w1.cell? ⟨w.heap.size, 0, none⟩ = some (.slice A zs.length c) := cell_keep hb (by simp)
      have hr1 : w1.cell? ⟨w.heap.size + 1, 0, none⟩ = some (.slice none 0 0) := cell_keep hb (by simp)
      have hf1 : w1.frozen? ⟨w.heap.size + 1, 0, none⟩ = false := frozen_keep hb (by simp) (by simp)
      obtain ⟨b, o, rfl, hcell⟩ := HA1.out k hk
      generalize hx : zs.getD k 0 = x at *
      have hne : (x != old) = true := by simp only [bne, he]; rfl
      clear hb hx he
      go_wp2_with fail
      refine (copyArena_any _ _ zs _ hn HA1.out).mono ?_
      rintro e w2 ⟨B, d, rfl, hnew, hb⟩
      have HB2 := Lib.hid (below_trans HB.out hb)
      have hr2 : w2.cell? ⟨w.heap.size + 1, 0, none⟩ = some (.slice none 0 0) := cell_keep hb hr1
      have hf2 : w2.frozen? ⟨w.heap.size + 1, 0, none⟩ = false := frozen_keep hb hz1 hf1
      have HO := Lib.hid hnew
      clear hb hnew hx1 hr1 hf1 hcell
      go_wp2
      refine bodyPost_ret (v := .tuple #[.agg #[.slice B zs.length d], .bool false, .int .i64 0]) (by simp [results, Try.results111, go_sem, hr2]) rfl ⟨B, d, ?_, ?_, HB2.out.setCell (by simp) _⟩
      · rw [HV.out]; exact ret_agg_bool_int HC.out.symm HD.out.symm
      · rw [HV.out]; exact (HO.out.setCell (by simp <;> omega) _).base (by omega)
    · have HV : Hid (casZs zs k old v = zs.set k v) := by unfold casZs; rw [if_pos h0, Int.toNat_natCast, he]; rfl
      have HD : Hid (casB zs k old v = true) := by unfold casB; rw [Int.toNat_natCast, he, h0]; rfl
      clear h0
      go_enter Try.func111, Try.ntmps111
      go_wp2_with fail
      refine (writeFault_any _ _ zs _ _ _ hn HA.out).mono ?_
      rintro e w1 ⟨rfl, hb⟩
      have HB := Lib.hid (below_trans (below_alloc2 _ _ _) hb)
      have HA1 := Lib.hid (HA.out.below hb)
      have hz1 : w.heap.size + 1 < w1.heap.size := by have := hb.size; simp at this; omega
      have hx1 : w1.cell? ⟨w.heap.size, 0, none⟩ = some (.slice A zs.length c) := cell_keep hb (by simp)
      have hr1 : w1.cell? ⟨w.heap.size + 1, 0, none⟩ = some (.slice none 0 0) := cell_keep hb (by simp)
      have hf1 : w1.frozen? ⟨w.heap.size + 1, 0, none⟩ = false := frozen_keep hb (by simp) (by simp)
      obtain ⟨b, o, rfl, hcell⟩ := HA1.out k hk
      generalize hx : zs.getD k 0 = x at *
      have hne : (x != old) = false := by simp only [bne, he]; rfl
      clear hb hx he
      go_wp2_with fail
      refine (list_any _ _ _ _).mono ?_
      rintro e w2 ⟨rfl, hb⟩
      have HB2 := Lib.hid (below_trans HB.out hb)
      have HA2 := Lib.hid (HA1.out.below hb)
      have hz2 : w.heap.size + 1 < w2.heap.size := by have := hb.size; omega
      have hr2 : w2.cell? ⟨w.heap.size + 1, 0, none⟩ = some (.slice none 0 0) := cell_keep hb hr1
      have hf2 : w2.frozen? ⟨w.heap.size + 1, 0, none⟩ = false := frozen_keep hb hz1 hf1
      clear hb hx1 hr1 hf1 hz1 HB HA1 hcell
      go_wp2_with fail
      refine (with_any _ _ k v zs _ hn hk HA2.out).mono ?_
      rintro e w3 ⟨rfl, hown, hb⟩
      have HB3 := Lib.hid (below_trans HB2.out hb)
      have hr3 : w3.cell? ⟨w.heap.size + 1, 0, none⟩ = some (.slice none 0 0) := cell_keep hb hr2
      have hf3 : w3.frozen? ⟨w.heap.size + 1, 0, none⟩ = false := frozen_keep hb hz2 hf2
      have hl : (zs.set k v).length = zs.length := by simp
      have HO : Hid (NewA w2.heap.size w3 (some ⟨w2.heap.size, 0, none⟩) zs.length (zs.set k v)) := by unfold NewA; rw [hl]; exact hown
      have HL := Lib.hid hl
      clear hb hown hr2 hf2 HB2 HA2 hl
      go_wp2
      refine bodyPost_ret (v := .tuple #[.agg #[.slice (some ⟨w2.heap.size, 0, none⟩) zs.length zs.length], .bool true, .int .i64 0]) (by simp [results, Try.results111, go_sem, hr3]) rfl ⟨some ⟨w2.heap.size, 0, none⟩, zs.length, ?_, ?_, HB3.out.setCell (by simp) _⟩
      · rw [HV.out, HL.out]; exact ret_agg_bool_int HC.out.symm HD.out.symm
      · rw [HV.out]
        exact (HO.out.setCell (by simp <;> omega) _).base (by omega)
  · have hne0 : writeCode zs p v ≠ 0 := by simpa using hz
    have HV : Hid (casZs zs p old v = []) := by unfold casZs; rw [if_neg hne0]; rfl
    have HD : Hid (casB zs p old v = false) := by unfold casB; rw [beq_eq_false_iff_ne.2 hne0, Bool.false_and]; rfl
    clear hne0
    go_enter Try.func111, Try.ntmps111
    go_wp2_with fail
    refine (writeFault_any _ _ zs _ _ _ hn HA.out).mono ?_
    rintro e w1 ⟨rfl, hb⟩
    have HB := Lib.hid (below_trans (below_alloc2 _ _ _) hb)
    have hr1 : w1.cell? ⟨w.heap.size + 1, 0, none⟩ = some (.slice none 0 0) := cell_keep hb (by simp)
    have hf1 : w1.frozen? ⟨w.heap.size + 1, 0, none⟩ = false := frozen_keep hb (by simp) (by simp)
    clear hb
    go_wp2
    refine bodyPost_ret (v := .tuple #[.agg #[.slice none 0 0], .bool false, .int .i64 (writeCode zs p v)]) (by simp [results, Try.results111, go_sem, hr1]) rfl ⟨none, 0, ?_, ?_, HB.out.setCell (by simp) _⟩
    · rw [HV.out]; exact ret_agg_bool_int rfl HD.out.symm
    · rw [HV.out]; exact NewA.nil _ _

/-- l01Cas: where the cell is there and the number fits. -/
theorem putZ_of {zs : List Int} {k : Nat} {v : Int} (hk1 : 1 ≤ k) (hk : k < zs.length) (hw : wordB v = true) : putZ zs k v = zs.set k v := by
  unfold putZ; rw [if_pos ⟨by simp [inB]; omega, hw⟩, Int.toNat_natCast]
theorem loadZ_of {zs : List Int} {k : Nat} (hk1 : 1 ≤ k) (hk : k < zs.length) : loadZ zs k = zs.getD k 0 := by
  unfold loadZ; rw [if_pos (by simp [inB]; omega), Int.toNat_natCast]

set_option maxHeartbeats 1000000 in
theorem l01Cas_any (A : Option Addr) (c k : Nat) (zs : List Int) (old v : Int) (w : World) (hn : zs.length ≤ 1048576) (hk1 : 1 ≤ k) (hk : k < zs.length) (hw : wordB v = true) (hA : Rd w A zs) :
    Calls Try.prog 122 #[.agg #[.slice A zs.length c], .int .i64 (k : Nat), .int .i64 old, .int .i64 v] w fun e w' => ∃ B d, e = .returned (.tuple #[.agg #[.slice B zs.length d], .bool (zs.getD k 0 == old)]) ∧
      NewA w.heap.size w' B d (if (zs.getD k 0 == old) = true then zs.set k v else zs) ∧ Below w.heap.size w w' := by
  have HA := Lib.hid (hA.below (below_alloc2 w (.cells #[.slice A zs.length c] 32) (.cells #[.slice none 0 0] 32))); clear hA
  have HP := Lib.hid (putZ_of hk1 hk hw)
  have HZ := Lib.hid (loadZ_of hk1 hk)
  clear hw
  cases he : (zs.getD k 0 == old)
  · have hne : (zs.getD k 0 != old) = true := by simp only [bne, he]; rfl
    go_enter Try.func122, Try.ntmps122
    go_wp2_with fail
    refine (l01Load_any _ _ zs _ _ hn HA.out).mono ?_
    rintro e w1 ⟨rfl, hb⟩
    have HB := Lib.hid (below_trans (below_alloc2 _ _ _) hb)
    have HA1 := Lib.hid (HA.out.below hb)
    have hz1 : w.heap.size + 1 < w1.heap.size := by have := hb.size; simp at this; omega
    have hx1 : w1.cell? ⟨w.heap.size, 0, none⟩ = some (.slice A zs.length c) := cell_keep hb (by simp)
    have hr1 : w1.cell? ⟨w.heap.size + 1, 0, none⟩ = some (.slice none 0 0) := cell_keep hb (by simp)
    have hf1 : w1.frozen? ⟨w.heap.size + 1, 0, none⟩ = false := frozen_keep hb (by simp) (by simp)
    clear hb
    rw [HZ.out]
    generalize zs.getD k 0 = x at *
    go_wp2_with fail
    refine (l01Own_any _ _ zs _ hn HA1.out).mono ?_
    rintro e w2 ⟨B, d, rfl, hnew, hb⟩
    have HB2 := Lib.hid (below_trans HB.out hb)
    have hr2 : w2.cell? ⟨w.heap.size + 1, 0, none⟩ = some (.slice none 0 0) := cell_keep hb hr1
    have hf2 : w2.frozen? ⟨w.heap.size + 1, 0, none⟩ = false := frozen_keep hb hz1 hf1
    have HO := Lib.hid hnew
    clear hb hnew hx1 hr1 hf1
    go_wp2
    refine bodyPost_ret (v := .tuple #[.agg #[.slice B zs.length d], .bool false]) (by simp [results, Try.results122, go_sem, hr2]) rfl ⟨B, d, rfl, ?_, HB2.out.setCell (by simp) _⟩
    exact (HO.out.setCell (by simp <;> omega) _).base (by omega)
  · have hne : (zs.getD k 0 != old) = false := by simp only [bne, he]; rfl
    go_enter Try.func122, Try.ntmps122
    go_wp2_with fail
    refine (l01Load_any _ _ zs _ _ hn HA.out).mono ?_
    rintro e w1 ⟨rfl, hb⟩
    have HB := Lib.hid (below_trans (below_alloc2 _ _ _) hb)
    have HA1 := Lib.hid (HA.out.below hb)
    have hz1 : w.heap.size + 1 < w1.heap.size := by have := hb.size; simp at this; omega
    have hx1 : w1.cell? ⟨w.heap.size, 0, none⟩ = some (.slice A zs.length c) := cell_keep hb (by simp)
    have hr1 : w1.cell? ⟨w.heap.size + 1, 0, none⟩ = some (.slice none 0 0) := cell_keep hb (by simp)
    have hf1 : w1.frozen? ⟨w.heap.size + 1, 0, none⟩ = false := frozen_keep hb (by simp) (by simp)
    clear hb
    rw [HZ.out]
    generalize zs.getD k 0 = x at *
    go_wp2_with fail
    refine (l01Store_any _ _ zs _ _ _ hn HA1.out).mono ?_
    rintro e w2 ⟨B, d, rfl, hnew, hb⟩
    have HB2 := Lib.hid (below_trans HB.out hb)
    have hr2 : w2.cell? ⟨w.heap.size + 1, 0, none⟩ = some (.slice none 0 0) := cell_keep hb hr1
    have hf2 : w2.frozen? ⟨w.heap.size + 1, 0, none⟩ = false := frozen_keep hb hz1 hf1
    rw [HP.out] at hnew
    have HO := Lib.hid hnew
    clear hb hnew hx1 hr1 hf1
    go_wp2
    refine bodyPost_ret (v := .tuple #[.agg #[.slice B zs.length d], .bool true]) (by simp [results, Try.results122, go_sem, hr2]) rfl ⟨B, d, rfl, ?_, HB2.out.setCell (by simp) _⟩
    exact (HO.out.setCell (by simp <;> omega) _).base (by omega)
end Go.Proofs.Ytkjkbkioekiecaa
