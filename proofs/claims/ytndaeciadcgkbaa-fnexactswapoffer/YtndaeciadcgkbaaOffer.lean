/-
  SwapOffer: the program's and the model's.
-/
import Derived.Test.YtndaeciadcgkbaaQLd
import Derived.Test.YtndaeciadcgkbaaLawArenaOK
namespace Go.Proofs.Ytndaeciadcgkbaa
open Go.RowKit

/-- What SwapOffer answers: who, what, the code. -/
def offerB (zs : List Int) : Int × Int × Int :=
  if arenaB zs = true then
    (if loadZ zs 6 = 0 ∨ loadZ zs (loadZ zs 6 + 1) ≠ 0 then (0, 0, 5)
     else (loadZ zs (loadZ zs 6 + 2) - 1, loadZ zs (loadZ zs 6) - 1, 0))
  else (0, 0, 1)
theorem offer_bad {zs : List Int} (h : arenaB zs = false) : offerB zs = (0, 0, 1) := by unfold offerB; rw [h]; rfl
theorem offer_none {zs : List Int} (h : arenaB zs = true) (h6 : loadZ zs 6 = 0) : offerB zs = (0, 0, 5) := by
  unfold offerB; rw [if_pos h, if_pos (.inl h6)]
theorem offer_came {zs : List Int} {a : Int} (h : arenaB zs = true) (h6 : loadZ zs 6 = a) (h7 : loadZ zs (a + 1) ≠ 0) : offerB zs = (0, 0, 5) := by
  subst h6; unfold offerB; rw [if_pos h, if_pos (.inr h7)]
theorem offer_there {zs : List Int} {a x y : Int} (h : arenaB zs = true) (h6 : loadZ zs 6 = a) (h0 : a ≠ 0) (h7 : loadZ zs (a + 1) = 0) (hx : loadZ zs (a + 2) = x) (hy : loadZ zs a = y) : offerB zs = (x - 1, y - 1, 0) := by
  subst h6 hx hy; unfold offerB; rw [if_pos h, if_neg (by simp [h0, h7])]

set_option maxHeartbeats 1000000 in
theorem implOffer_any (A : Option Addr) (c : Nat) (zs : List Int) (w : World) (hn : zs.length ≤ 1048576) (hA : Rd w A zs) :
    Calls Try.prog 21 #[.agg #[.slice A zs.length c]] w fun e w' => e = .returned (.tuple #[.int .i64 (offerB zs).1, .int .i64 (offerB zs).2.1, .int .i64 (offerB zs).2.2]) ∧ Below w.heap.size w w' := by
  have HA := Lib.hid (hA.below (below_alloc w (.cells #[.slice A zs.length c] 26))); clear hA
  cases ha : arenaB zs
  · have HV := Lib.hid (offer_bad ha)
    go_enter Try.func21, Try.ntmps21
    go_wp2_with fail
    refine (implArenaOK_any _ _ zs _ hn HA.out).mono ?_
    rintro e w1 ⟨rfl, hb⟩
    have HB := Lib.hid (below_trans (below_alloc _ _) hb); clear hb
    rw [ha]
    go_wp2
    refine bodyPost_ret (v := .tuple #[.int .i64 0, .int .i64 0, .int .i64 1]) (by simp [results, Try.results21, go_sem]) rfl ⟨by rw [HV.out], HB.out⟩
  · have HR := Lib.hid ha
    obtain ⟨_, _, h0, hws⟩ := arenaB_parts ha
    have H0 := Lib.hid h0
    clear h0 ha
    have hb6 := loadZ_word hws 6
    generalize h6 : loadZ zs 6 = a at *
    have hb7 := loadZ_word hws (a + 1)
    have hb8 := loadZ_word hws (a + 2)
    have hb9 := loadZ_word hws a
    generalize h7 : loadZ zs (a + 1) = q at *
    generalize h8 : loadZ zs (a + 2) = x at *
    generalize h9 : loadZ zs a = y at *
    have H6 := Lib.hid h6; have H7 := Lib.hid h7; have H8 := Lib.hid h8; have H9 := Lib.hid h9
    have HBA : Hid (-1000000000000 ≤ a ∧ a ≤ 1000000000000) := by exact ⟨by omega, by omega⟩
    have HBX : Hid (-1000000000000 ≤ x ∧ x ≤ 1000000000000) := by exact ⟨by omega, by omega⟩
    have hwy : IntKind.i64.wrap (y - 1) = y - 1 := IntWalk.i64_in _ (by omega)
    clear h6 h7 h8 h9 hb6 hb7 hb8 hb9 hws
    go_enter Try.func21, Try.ntmps21
    go_wp2_with fail
    refine (implArenaOK_any _ _ zs _ hn HA.out).mono ?_
    rintro e w1 ⟨rfl, hb⟩
    have HB := Lib.hid (below_trans (below_alloc _ _) hb)
    have HA1 := Lib.hid (HA.out.below hb)
    have hx1 : w1.cell? ⟨w.heap.size, 0, none⟩ = some (.slice A zs.length c) := cell_keep hb (by simp)
    clear hb HA
    rw [HR.out]
    go_wp2_with fail
    refine (cload_any _ _ zs _ _ hn H0.out HA1.out).mono ?_
    rintro e w2 ⟨rfl, hb⟩
    rw [H6.out]
    have HB2 := Lib.hid (below_trans HB.out hb)
    have HA2 := Lib.hid (HA1.out.below hb)
    have hx2 : w2.cell? ⟨w.heap.size, 0, none⟩ = some (.slice A zs.length c) := cell_keep hb hx1
    clear hb HA1 HB hx1
    by_cases hz : a = 0
    · have HV := Lib.hid (offer_none HR.out (H6.out.trans hz))
      subst hz
      go_wp2_with fail
      go_quiet (fail)
      go_wp2
      refine bodyPost_ret (v := .tuple #[.int .i64 0, .int .i64 0, .int .i64 5]) (by simp [results, Try.results21, go_sem]) rfl ⟨by rw [HV.out], below_trans HB2.out (below_drewN _)⟩
    · have hd : (a == 0) = false := by simp [hz]
      go_wp2_with fail
      go_region_held3 (fun w' => w'.cell? ⟨w.heap.size, 0, none⟩ = some (.slice A zs.length c)) (first | exact hx2 | exact cell_keep hb2 hx2)
        (first
          | (go_at_call 44; refine (cameOf_any _ _ HBA.out).mono ?_; rintro e u1 ⟨rfl, rfl⟩)
          | (go_at_call 43; refine (cload_any _ _ zs _ _ hn H0.out HA2.out.drew).mono ?_; rintro e u2 ⟨rfl, hb2⟩; rw [H7.out]))
      have hb := below_drew_trans hb2
      clear hb2
      have HB3 := Lib.hid (below_trans HB2.out hb)
      have HA3 := Lib.hid (HA2.out.below hb)
      have hx3 : u2.cell? ⟨w.heap.size, 0, none⟩ = some (.slice A zs.length c) := cell_keep hb hx2
      clear hb HA2 HB2 hx2
      by_cases hq : q = 0
      · have HV := Lib.hid (offer_there HR.out H6.out hz (H7.out.trans hq) H8.out H9.out)
        subst hq
        go_wp2_with fail
        go_region_held3 (fun w' => w'.cell? ⟨w.heap.size, 0, none⟩ = some (.slice A zs.length c)) (first | exact hx3 | exact cell_keep hb3 hx3 | exact cell_keep hb4 (cell_keep hb3 hx3))
          (first
            | (go_at_call 45; (with_reducible refine (ownerAt_any _ _ zs _ x _ hn H0.out H8.out HBA.out HBX.out HA3.out.drew).mono ?_); rintro e u3 ⟨rfl, hb3⟩)
            | (go_at_call 43; (with_reducible refine (cload_any _ _ zs _ _ hn H0.out (HA3.out.drew.below hb3)).mono ?_); rintro e u4 ⟨rfl, hb4⟩; rw [H9.out]))
        have HB4 := Lib.hid (below_trans HB3.out (below_drew_trans (below_trans hb3 hb4)))
        clear hb3 hb4
        go_wp2
        refine bodyPost_ret (v := .tuple #[.int .i64 (x - 1), .int .i64 (y - 1), .int .i64 0]) (by simp [results, Try.results21, go_sem]) rfl ⟨by rw [HV.out], HB4.out⟩
      · have HV := Lib.hid (offer_came HR.out H6.out (by rw [H7.out]; exact hq))
        have hd7 : (q != 0) = true := by simp [hq]
        go_wp2
        refine bodyPost_ret (v := .tuple #[.int .i64 0, .int .i64 0, .int .i64 5]) (by simp [results, Try.results21, go_sem]) rfl ⟨by rw [HV.out], HB3.out⟩
end Go.Proofs.Ytndaeciadcgkbaa
