/-
  Contracts: CasCell of the model; AddCell of the program and of the model (chapter 2).
-/
import Derived.Test.YtnahdbkdonbofaaCas
import Derived.Deep.RegionWith
namespace Go.Proofs.Ytnahdbkdonbofaa
open Go.RowKit

set_option maxHeartbeats 1000000 in
theorem specCasCell_any (A : Option Addr) (c : Nat) (zs : List Int) (p old v : Int) (w : World) (hn : zs.length ≤ 1048576) (hA : Rd w A zs) :
    Calls Try.prog 26 #[.agg #[.slice A zs.length c], .int .i64 p, .int .i64 old, .int .i64 v] w fun e w' => ∃ B d, e = .returned (.tuple #[.agg #[.slice B (casZs zs p old v).length d], .bool (casB zs p old v), .int .i64 (writeCode zs p v)]) ∧
      NewA w.heap.size w' B d (casZs zs p old v) ∧ Below w.heap.size w w' := by
  have HA := Lib.hid (hA.below (below_alloc2 w (.cells #[.slice A zs.length c] 25) (.cells #[.slice none 0 0] 25))); clear hA
  cases hz : (cellCode zs p != 0)
  · have h0 : cellCode zs p = 0 := by simpa using hz
    obtain ⟨_, h1, h2⟩ := cellCode_zero h0
    cases hw : wordB v
    · have hc4 : writeCode zs p v = 4 := by unfold writeCode; rw [if_pos h0, hw]; rfl
      have HV : Hid (casZs zs p old v = []) := by unfold casZs; rw [if_neg (by rw [hc4]; decide)]; rfl
      have HD : Hid (casB zs p old v = false) := by unfold casB; rw [hc4]; rfl
      have HC := Lib.hid hc4
      clear h0 hc4
      go_enter Try.func26, Try.ntmps26
      go_wp2_with fail
      refine (l01Ask_any _ _ zs _ _ hn HA.out).mono ?_
      rintro e w1 ⟨rfl, hb⟩
      have HB := Lib.hid (below_trans (below_alloc2 _ _ _) hb)
      have hr1 : w1.cell? ⟨w.heap.size + 1, 0, none⟩ = some (.slice none 0 0) := cell_keep hb (by simp)
      have hf1 : w1.frozen? ⟨w.heap.size + 1, 0, none⟩ = false := frozen_keep hb (by simp) (by simp)
      clear hb
      go_wp2_with (go_at_call 55; refine (l01Word_any _ _).mono ?_; rintro e w' ⟨rfl, rfl⟩)
      refine bodyPost_ret (v := .tuple #[.agg #[.slice none 0 0], .bool false, .int .i64 4]) (by simp [results, Try.results26, go_sem, hr1]) rfl ⟨none, 0, ?_, ?_, HB.out.setCell (by simp) _⟩
      · rw [HV.out]; exact ret_agg_bool_int HC.out.symm HD.out.symm
      · rw [HV.out]; exact NewA.nil _ _
    · have hc0 : writeCode zs p v = 0 := by unfold writeCode; rw [if_pos h0, hw]; rfl
      obtain ⟨k, rfl⟩ := Int.eq_ofNat_of_zero_le (by omega : 0 ≤ p)
      have hk : k < zs.length := by omega
      have hk1 : 1 ≤ k := by omega
      have HV : Hid (casZs zs k old v = if (zs.getD k 0 == old) = true then zs.set k v else zs) := by unfold casZs; rw [if_pos hc0, Int.toNat_natCast]; rfl
      have HD : Hid (casB zs k old v = (zs.getD k 0 == old)) := by unfold casB; rw [hc0, Int.toNat_natCast]; rfl
      have HL : Hid ((casZs zs k old v).length = zs.length) := by rw [HV.out]; show (if (zs.getD k 0 == old) = true then zs.set k v else zs).length = zs.length; split <;> simp
      have HC := Lib.hid hc0
      clear h0 hc0
      go_enter Try.func26, Try.ntmps26
      go_wp2_with fail
      refine (l01Ask_any _ _ zs _ _ hn HA.out).mono ?_
      rintro e w1 ⟨rfl, hb⟩
      have HB := Lib.hid (below_trans (below_alloc2 _ _ _) hb)
      have HA1 := Lib.hid (HA.out.below hb)
      have hz1 : w.heap.size + 1 < w1.heap.size := by have := hb.size; simp at this; omega
      have hx1 : w1.cell? ⟨w.heap.size, 0, none⟩ = some (.slice A zs.length c) := cell_keep hb (by simp)
      have hr1 : w1.cell? ⟨w.heap.size + 1, 0, none⟩ = some (.slice none 0 0) := cell_keep hb (by simp)
      have hf1 : w1.frozen? ⟨w.heap.size + 1, 0, none⟩ = false := frozen_keep hb (by simp) (by simp)
      clear hb
      go_wp2_with (first | (go_at_call 55; refine (l01Word_any _ _).mono ?_; rintro e w' ⟨rfl, rfl⟩) | fail)
      refine (l01Cas_any _ _ k zs _ _ _ hn hk1 hk hw HA1.out).mono ?_
      rintro e w2 ⟨B, d, rfl, hnew, hb⟩
      have HB2 := Lib.hid (below_trans HB.out hb)
      have hr2 : w2.cell? ⟨w.heap.size + 1, 0, none⟩ = some (.slice none 0 0) := cell_keep hb hr1
      have hf2 : w2.frozen? ⟨w.heap.size + 1, 0, none⟩ = false := frozen_keep hb hz1 hf1
      have hz2 : w.heap.size + 1 < w2.heap.size := by have := hb.size; omega
      have HO : Hid (NewA w1.heap.size w2 B d (casZs zs k old v)) := by rw [HV.out]; exact hnew
      clear hb hnew hx1 hr1 hf1
      generalize (zs.getD k 0 == old) = q at *
      go_wp2
      refine bodyPost_ret (v := .tuple #[.agg #[.slice B zs.length d], .bool q, .int .i64 0]) (by simp [results, Try.results26, go_sem, hr2, hz2]) rfl ⟨B, d, ?_, ?_, below_trans (HB2.out.setCell (by simp) _) (below_alloc _ _)⟩
      · rw [HL.out]; exact ret_agg_bool_int HC.out.symm HD.out.symm
      · exact ((HO.out.setCell (by simp <;> omega) _).below (below_alloc _ _)).base (by omega)
  · have hne : cellCode zs p ≠ 0 := by simpa using hz
    have hcc : writeCode zs p v = cellCode zs p := by unfold writeCode; rw [if_neg hne]
    have HV : Hid (casZs zs p old v = []) := by unfold casZs; rw [if_neg (by rw [hcc]; exact hne)]; rfl
    have HD : Hid (casB zs p old v = false) := by unfold casB; rw [hcc, beq_eq_false_iff_ne.2 hne, Bool.false_and]; rfl
    have HC := Lib.hid hcc
    clear hne hcc
    go_enter Try.func26, Try.ntmps26
    go_wp2_with fail
    refine (l01Ask_any _ _ zs _ _ hn HA.out).mono ?_
    rintro e w1 ⟨rfl, hb⟩
    have HB := Lib.hid (below_trans (below_alloc2 _ _ _) hb)
    have hr1 : w1.cell? ⟨w.heap.size + 1, 0, none⟩ = some (.slice none 0 0) := cell_keep hb (by simp)
    have hf1 : w1.frozen? ⟨w.heap.size + 1, 0, none⟩ = false := frozen_keep hb (by simp) (by simp)
    clear hb
    go_wp2
    refine bodyPost_ret (v := .tuple #[.agg #[.slice none 0 0], .bool false, .int .i64 (cellCode zs p)]) (by simp [results, Try.results26, go_sem, hr1]) rfl ⟨none, 0, ?_, ?_, HB.out.setCell (by simp) _⟩
    · rw [HV.out]; exact ret_agg_bool_int HC.out.symm HD.out.symm
    · rw [HV.out]; exact NewA.nil _ _

def addCode (zs : List Int) (p n : Int) : Int := if writeCode zs p n = 0 then (if wordB (zs.getD p.toNat 0 + n) = true then 0 else 4) else writeCode zs p n
def addZs (zs : List Int) (p n : Int) : List Int := if addCode zs p n = 0 then zs.set p.toNat (zs.getD p.toNat 0 + n) else []
def addWas (zs : List Int) (p n : Int) : Int := if addCode zs p n = 0 then zs.getD p.toNat 0 else 0
theorem addZs_len (zs : List Int) (p n : Int) : (addZs zs p n).length ≤ zs.length := by
  unfold addZs; split <;> simp
theorem word_at {zs : List Int} {k : Nat} (ha : arenaB zs = true) (hk : k < zs.length) : -1000000000 ≤ zs.getD k 0 ∧ zs.getD k 0 ≤ 1000000000 :=
  (wordB_iff _).1 ((wordsB_iff zs).1 (arenaB_parts ha).2.2.2 k hk)

set_option maxHeartbeats 1000000 in
theorem implAddCell_any (A : Option Addr) (c : Nat) (zs : List Int) (p n : Int) (w : World) (hn : zs.length ≤ 1048576) (hA : Rd w A zs) :
    Calls Try.prog 28 #[.agg #[.slice A zs.length c], .int .i64 p, .int .i64 n] w fun e w' => ∃ B d, e = .returned (.tuple #[.agg #[.slice B (addZs zs p n).length d], .int .i64 (addWas zs p n), .int .i64 (addCode zs p n)]) ∧
      NewA w.heap.size w' B d (addZs zs p n) ∧ Below w.heap.size w w' := by
  have HA := Lib.hid (hA.below (below_alloc2 w (.cells #[.slice A zs.length c] 25) (.cells #[.slice none 0 0] 25))); clear hA
  cases hz : (writeCode zs p n != 0)
  · have h0 : writeCode zs p n = 0 := by simpa using hz
    obtain ⟨hcc, hww⟩ := writeCode_zero h0
    obtain ⟨har, h1, h2⟩ := cellCode_zero hcc
    obtain ⟨k, rfl⟩ := Int.eq_ofNat_of_zero_le (by omega : 0 ≤ p)
    have hk : k < zs.length := by omega
    obtain ⟨hxl, hxh⟩ := word_at har hk
    obtain ⟨hnl, hnh⟩ := (wordB_iff n).1 hww
    clear hcc hww har
    cases he : wordB (zs.getD k 0 + n)
    · have hc : addCode zs k n = 4 := by unfold addCode; rw [if_pos h0, Int.toNat_natCast, he]; rfl
      have HV : Hid (addZs zs k n = []) := by unfold addZs; rw [if_neg (by rw [hc]; decide)]; rfl
      have HD : Hid (addWas zs k n = 0) := by unfold addWas; rw [if_neg (by rw [hc]; decide)]; rfl
      have HC := Lib.hid hc
      clear h0 hc
      go_enter Try.func28, Try.ntmps28
      go_wp2_with fail
      refine (writeFault_any _ _ zs _ _ _ hn HA.out).mono ?_
      rintro e w1 ⟨rfl, hb⟩
      have HB := Lib.hid (below_trans (below_alloc2 _ _ _) hb)
      have HA1 := Lib.hid (HA.out.below hb)
      have hx1 : w1.cell? ⟨w.heap.size, 0, none⟩ = some (.slice A zs.length c) := cell_keep hb (by simp)
      have hr1 : w1.cell? ⟨w.heap.size + 1, 0, none⟩ = some (.slice none 0 0) := cell_keep hb (by simp)
      have hf1 : w1.frozen? ⟨w.heap.size + 1, 0, none⟩ = false := frozen_keep hb (by simp) (by simp)
      obtain ⟨b, o, rfl, hcell⟩ := HA1.out k hk
      generalize hx : zs.getD k 0 = x at *
      clear hb hx
      go_wp2_with (go_at_call 61; refine (wordOK_any _ _).mono ?_; rintro e w' ⟨rfl, rfl⟩)
      refine bodyPost_ret (v := .tuple #[.agg #[.slice none 0 0], .int .i64 0, .int .i64 4]) (by simp [results, Try.results28, go_sem, hr1]) rfl ⟨none, 0, ?_, ?_, HB.out.setCell (by simp) _⟩
      · rw [HV.out]; exact ret_agg_int_int HC.out.symm HD.out.symm
      · rw [HV.out]; exact NewA.nil _ _
    · have hc : addCode zs k n = 0 := by unfold addCode; rw [if_pos h0, Int.toNat_natCast, he]; rfl
      have HV : Hid (addZs zs k n = zs.set k (zs.getD k 0 + n)) := by unfold addZs; rw [if_pos hc, Int.toNat_natCast]; rfl
      have HD : Hid (addWas zs k n = zs.getD k 0) := by unfold addWas; rw [if_pos hc, Int.toNat_natCast]; rfl
      have HC := Lib.hid hc
      clear h0 hc
      go_enter Try.func28, Try.ntmps28
      go_wp2_with fail
      refine (writeFault_any _ _ zs _ _ _ hn HA.out).mono ?_
      rintro e w1 ⟨rfl, hb⟩
      have HB := Lib.hid (below_trans (below_alloc2 _ _ _) hb)
      have HA1 := Lib.hid (HA.out.below hb)
      have hz1 : w.heap.size + 1 < w1.heap.size := by have := hb.size; simp at this; omega
      have hx1 : w1.cell? ⟨w.heap.size, 0, none⟩ = some (.slice A zs.length c) := cell_keep hb (by simp)
      have hr1 : w1.cell? ⟨w.heap.size + 1, 0, none⟩ = some (.slice none 0 0) := cell_keep hb (by simp)
      have hf1 : w1.frozen? ⟨w.heap.size + 1, 0, none⟩ = false := frozen_keep hb (by simp) (by simp)
      obtain ⟨b, o, rfl, hcell⟩ := HA1.out k hk
      generalize hx : zs.getD k 0 = x at *
      clear hb hx
      go_wp2_with (first | (go_at_call 61; refine (wordOK_any _ _).mono ?_; rintro e w' ⟨rfl, rfl⟩) | fail)
      refine (list_any _ _ _ _).mono ?_
      rintro e w2 ⟨rfl, hb⟩
      have HB2 := Lib.hid (below_trans HB.out hb)
      have HA2 := Lib.hid (HA1.out.below hb)
      have hz2 : w.heap.size + 1 < w2.heap.size := by have := hb.size; omega
      have hr2 : w2.cell? ⟨w.heap.size + 1, 0, none⟩ = some (.slice none 0 0) := cell_keep hb hr1
      have hf2 : w2.frozen? ⟨w.heap.size + 1, 0, none⟩ = false := frozen_keep hb hz1 hf1
      clear hb hx1 hr1 hf1 hz1 HB HA1 hcell
      go_wp2_with fail
      refine (with_any _ _ k (x + n) zs _ hn hk HA2.out).mono ?_
      rintro e w3 ⟨rfl, hown, hb⟩
      have HB3 := Lib.hid (below_trans HB2.out hb)
      have hr3 : w3.cell? ⟨w.heap.size + 1, 0, none⟩ = some (.slice none 0 0) := cell_keep hb hr2
      have hf3 : w3.frozen? ⟨w.heap.size + 1, 0, none⟩ = false := frozen_keep hb hz2 hf2
      have hl : (zs.set k (x + n)).length = zs.length := by simp
      have HO : Hid (NewA w2.heap.size w3 (some ⟨w2.heap.size, 0, none⟩) zs.length (zs.set k (x + n))) := by unfold NewA; rw [hl]; exact hown
      have HL := Lib.hid hl
      clear hb hown hr2 hf2 HB2 HA2 hl
      go_wp2
      refine bodyPost_ret (v := .tuple #[.agg #[.slice (some ⟨w2.heap.size, 0, none⟩) zs.length zs.length], .int .i64 x, .int .i64 0]) (by simp [results, Try.results28, go_sem, hr3]) rfl ⟨some ⟨w2.heap.size, 0, none⟩, zs.length, ?_, ?_, HB3.out.setCell (by simp) _⟩
      · rw [HV.out, HL.out]; exact ret_agg_int_int HC.out.symm HD.out.symm
      · rw [HV.out]
        exact (HO.out.setCell (by simp <;> omega) _).base (by omega)
  · have hne0 : writeCode zs p n ≠ 0 := by simpa using hz
    have hcc : addCode zs p n = writeCode zs p n := by unfold addCode; rw [if_neg hne0]
    have HV : Hid (addZs zs p n = []) := by unfold addZs; rw [if_neg (by rw [hcc]; exact hne0)]; rfl
    have HD : Hid (addWas zs p n = 0) := by unfold addWas; rw [if_neg (by rw [hcc]; exact hne0)]; rfl
    have HC := Lib.hid hcc
    clear hne0 hcc
    go_enter Try.func28, Try.ntmps28
    go_wp2_with fail
    refine (writeFault_any _ _ zs _ _ _ hn HA.out).mono ?_
    rintro e w1 ⟨rfl, hb⟩
    have HB := Lib.hid (below_trans (below_alloc2 _ _ _) hb)
    have hr1 : w1.cell? ⟨w.heap.size + 1, 0, none⟩ = some (.slice none 0 0) := cell_keep hb (by simp)
    have hf1 : w1.frozen? ⟨w.heap.size + 1, 0, none⟩ = false := frozen_keep hb (by simp) (by simp)
    clear hb
    go_wp2
    refine bodyPost_ret (v := .tuple #[.agg #[.slice none 0 0], .int .i64 0, .int .i64 (writeCode zs p n)]) (by simp [results, Try.results28, go_sem, hr1]) rfl ⟨none, 0, ?_, ?_, HB.out.setCell (by simp) _⟩
    · rw [HV.out]; exact ret_agg_int_int HC.out.symm HD.out.symm
    · rw [HV.out]; exact NewA.nil _ _
end Go.Proofs.Ytnahdbkdonbofaa
