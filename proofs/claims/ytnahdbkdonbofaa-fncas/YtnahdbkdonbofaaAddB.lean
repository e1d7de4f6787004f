/-
  Contract: AddCell of the model (chapter 2).
-/
import Derived.Test.YtnahdbkdonbofaaCasB
namespace Go.Proofs.Ytnahdbkdonbofaa
open Go.RowKit

set_option maxHeartbeats 1000000 in
theorem specAddCell_any (A : Option Addr) (c : Nat) (zs : List Int) (p n : Int) (w : World) (hn : zs.length ≤ 1048576) (hA : Rd w A zs) :
    Calls Try.prog 29 #[.agg #[.slice A zs.length c], .int .i64 p, .int .i64 n] w fun e w' => ∃ B d, e = .returned (.tuple #[.agg #[.slice B (addZs zs p n).length d], .int .i64 (addWas zs p n), .int .i64 (addCode zs p n)]) ∧
      NewA w.heap.size w' B d (addZs zs p n) ∧ Below w.heap.size w w' := by
  have HA0 := Lib.hid hA
  have HA := Lib.hid (hA.below (below_alloc2 w (.cells #[.slice A zs.length c] 25) (.cells #[.slice none 0 0] 25))); clear hA
  cases hz : (cellCode zs p != 0)
  · have h0 : cellCode zs p = 0 := by simpa using hz
    obtain ⟨har, h1, h2⟩ := cellCode_zero h0
    obtain ⟨k, rfl⟩ := Int.eq_ofNat_of_zero_le (by omega : 0 ≤ p)
    have hk : k < zs.length := by omega
    have hk1 : 1 ≤ k := by omega
    cases hw : wordB n
    · have hw4 : writeCode zs k n = 4 := by unfold writeCode; rw [if_pos h0, hw]; rfl
      have hc : addCode zs k n = 4 := by unfold addCode; rw [hw4, if_neg (by decide)]
      have HV : Hid (addZs zs k n = []) := by unfold addZs; rw [if_neg (by rw [hc]; decide)]; rfl
      have HD : Hid (addWas zs k n = 0) := by unfold addWas; rw [if_neg (by rw [hc]; decide)]; rfl
      have HC := Lib.hid hc
      clear h0 hc hw4 har
      go_enter Try.func29, Try.ntmps29
      go_wp2_with fail
      refine (l01Ask_any _ _ zs _ _ hn HA.out).mono ?_
      rintro e w1 ⟨rfl, hb⟩
      have HB := Lib.hid (below_trans (below_alloc2 _ _ _) hb)
      have hr1 : w1.cell? ⟨w.heap.size + 1, 0, none⟩ = some (.slice none 0 0) := cell_keep hb (by simp)
      have hf1 : w1.frozen? ⟨w.heap.size + 1, 0, none⟩ = false := frozen_keep hb (by simp) (by simp)
      clear hb
      go_wp2_with (go_at_call 55; refine (l01Word_any _ _).mono ?_; rintro e w' ⟨rfl, rfl⟩)
      refine bodyPost_ret (v := .tuple #[.agg #[.slice none 0 0], .int .i64 0, .int .i64 4]) (by simp [results, Try.results29, go_sem, hr1]) rfl ⟨none, 0, ?_, ?_, HB.out.setCell (by simp) _⟩
      · rw [HV.out]; exact ret_agg_int_int HC.out.symm HD.out.symm
      · rw [HV.out]; exact NewA.nil _ _
    · have hw0 : writeCode zs k n = 0 := by unfold writeCode; rw [if_pos h0, hw]; rfl
      obtain ⟨hxl, hxh⟩ := word_at har hk
      obtain ⟨hnl, hnh⟩ := (wordB_iff n).1 hw
      cases he : wordB (zs.getD k 0 + n)
      · have hc : addCode zs k n = 4 := by unfold addCode; rw [if_pos hw0, Int.toNat_natCast, he]; rfl
        have HV : Hid (addZs zs k n = []) := by unfold addZs; rw [if_neg (by rw [hc]; decide)]; rfl
        have HD : Hid (addWas zs k n = 0) := by unfold addWas; rw [if_neg (by rw [hc]; decide)]; rfl
        have HC := Lib.hid hc
        clear h0 hc hw0 har
        go_enter Try.func29, Try.ntmps29
        go_wp2_with fail
        refine (l01Ask_any _ _ zs _ _ hn HA.out).mono ?_
        rintro e w1 ⟨rfl, hb⟩
        have HB := Lib.hid (below_trans (below_alloc2 _ _ _) hb)
        have hx1 : w1.cell? ⟨w.heap.size, 0, none⟩ = some (.slice A zs.length c) := cell_keep hb (by simp)
        have hr1 : w1.cell? ⟨w.heap.size + 1, 0, none⟩ = some (.slice none 0 0) := cell_keep hb (by simp)
        have hf1 : w1.frozen? ⟨w.heap.size + 1, 0, none⟩ = false := frozen_keep hb (by simp) (by simp)
        obtain ⟨b, o, rfl, hcell⟩ := (HA.out.below hb) k hk
        generalize hx : zs.getD k 0 = x at *
        clear hb hx
        go_wp2_with (go_at_call 55; refine (l01Word_any _ _).mono ?_; rintro e w' ⟨rfl, rfl⟩)
        refine bodyPost_ret (v := .tuple #[.agg #[.slice none 0 0], .int .i64 0, .int .i64 4]) (by simp [results, Try.results29, go_sem, hr1]) rfl ⟨none, 0, ?_, ?_, HB.out.setCell (by simp) _⟩
        · rw [HV.out]; exact ret_agg_int_int HC.out.symm HD.out.symm
        · rw [HV.out]; exact NewA.nil _ _
      · have hc : addCode zs k n = 0 := by unfold addCode; rw [if_pos hw0, Int.toNat_natCast, he]; rfl
        have HV : Hid (addZs zs k n = zs.set k (zs.getD k 0 + n)) := by unfold addZs; rw [if_pos hc, Int.toNat_natCast]; rfl
        have HD : Hid (addWas zs k n = zs.getD k 0) := by unfold addWas; rw [if_pos hc, Int.toNat_natCast]; rfl
        have HC := Lib.hid hc
        have HP := Lib.hid (putZ_of hk1 hk he)
        clear h0 hc hw0 har
        go_enter Try.func29, Try.ntmps29
        go_wp2_with fail
        refine (l01Ask_any _ _ zs _ _ hn HA.out).mono ?_
        rintro e w1 ⟨rfl, hb⟩
        have HB := Lib.hid (below_trans (below_alloc2 _ _ _) hb)
        have HA1 := Lib.hid (HA.out.below hb)
        have hz1 : w.heap.size + 1 < w1.heap.size := by have := hb.size; simp at this; omega
        have hx1 : w1.cell? ⟨w.heap.size, 0, none⟩ = some (.slice A zs.length c) := cell_keep hb (by simp)
        have hr1 : w1.cell? ⟨w.heap.size + 1, 0, none⟩ = some (.slice none 0 0) := cell_keep hb (by simp)
        have hf1 : w1.frozen? ⟨w.heap.size + 1, 0, none⟩ = false := frozen_keep hb (by simp) (by simp)
        obtain ⟨b, o, rfl, hcell⟩ := HA1.out k hk
        obtain ⟨b', o', hbo, hcell0⟩ := HA0.out k hk
        have hbw : b ≠ w.heap.size + 1 := by
          simp only [Option.some.injEq, Addr.mk.injEq, and_true] at hbo
          have := block_lt_of_cell hcell0
          simp only at this
          omega
        clear hcell0 hbo
        generalize hx : zs.getD k 0 = x at *
        clear hb hx
        go_wp2_with (first | (go_at_call 55; refine (l01Word_any _ _).mono ?_; rintro e w' ⟨rfl, rfl⟩) | fail)
        have hwr : IntKind.i64.wrap (x + n) = x + n := IntWalk.i64_in _ (by omega)
        go_region_held3 (fun w' => w'.cell? ⟨w.heap.size, 0, none⟩ = some (.slice (some ⟨b, o, none⟩) zs.length c) ∧ w'.cell? ⟨b, o + k, none⟩ = some (.int .i64 x))
          (first | exact ⟨hx1, hcell⟩ | exact ⟨cell_keep hb2 hx1, cell_keep hb2 hcell⟩ | exact ⟨(World.cell?_setCell_other _ _ _ _ (by simp)).trans (cell_keep hb2 hx1), (World.cell?_setCell_other _ _ _ _ (by simp [hbw])).trans (cell_keep hb2 hcell)⟩)
          (first
            | (go_at_call 56; refine (l01Store_any _ _ zs _ _ _ hn HA1.out.drew).mono ?_; rintro e w2 ⟨B, d, rfl, hnew, hb2⟩; have hr2 : w2.cell? ⟨w.heap.size + 1, 0, none⟩ = some (.slice none 0 0) := cell_keep hb2 hr1; have hf2 : w2.frozen? ⟨w.heap.size + 1, 0, none⟩ = false := frozen_keep hb2 hz1 hf1))
        rw [HP.out] at hnew
        have hl : (zs.set k (x + n)).length = zs.length := by simp
        have HL := Lib.hid hl
        have HO : Hid (NewA w1.heap.size w2 B d (zs.set k (x + n))) := hnew
        have HB2 := Lib.hid (below_trans HB.out (below_drew_trans hb2))
        clear hb2 hnew hl hx1 hr1 hf1 hcell
        go_wp2
        refine bodyPost_ret (v := .tuple #[.agg #[.slice B zs.length d], .int .i64 x, .int .i64 0]) (by simp [results, Try.results29, go_sem, hr2]) rfl ⟨B, d, ?_, ?_, HB2.out.setCell (by simp) _⟩
        · rw [HV.out, HL.out]; exact ret_agg_int_int HC.out.symm HD.out.symm
        · rw [HV.out]; exact (HO.out.setCell (by simp <;> omega) _).base (by omega)
  · have hne : cellCode zs p ≠ 0 := by simpa using hz
    have hcc : writeCode zs p n = cellCode zs p := by unfold writeCode; rw [if_neg hne]
    have hca : addCode zs p n = cellCode zs p := by unfold addCode; rw [hcc, if_neg hne]
    have HV : Hid (addZs zs p n = []) := by unfold addZs; rw [if_neg (by rw [hca]; exact hne)]; rfl
    have HD : Hid (addWas zs p n = 0) := by unfold addWas; rw [if_neg (by rw [hca]; exact hne)]; rfl
    have HC := Lib.hid hca
    clear hne hcc hca
    go_enter Try.func29, Try.ntmps29
    go_wp2_with fail
    refine (l01Ask_any _ _ zs _ _ hn HA.out).mono ?_
    rintro e w1 ⟨rfl, hb⟩
    have HB := Lib.hid (below_trans (below_alloc2 _ _ _) hb)
    have hr1 : w1.cell? ⟨w.heap.size + 1, 0, none⟩ = some (.slice none 0 0) := cell_keep hb (by simp)
    have hf1 : w1.frozen? ⟨w.heap.size + 1, 0, none⟩ = false := frozen_keep hb (by simp) (by simp)
    clear hb
    go_wp2
    refine bodyPost_ret (v := .tuple #[.agg #[.slice none 0 0], .int .i64 0, .int .i64 (cellCode zs p)]) (by simp [results, Try.results29, go_sem, hr1]) rfl ⟨none, 0, ?_, ?_, HB.out.setCell (by simp) _⟩
    · rw [HV.out]; exact ret_agg_int_int HC.out.symm HD.out.symm
    · rw [HV.out]; exact NewA.nil _ _
end Go.Proofs.Ytnahdbkdonbofaa
