/-
  SwapOffer: the model's.
-/
import Derived.Test.YtndaeciadcgkbaaOffer
namespace Go.Proofs.Ytndaeciadcgkbaa
open Go.RowKit

set_option maxHeartbeats 1000000 in
theorem specOffer_any (A : Option Addr) (c : Nat) (zs : List Int) (w : World) (hn : zs.length ≤ 1048576) (hA : Rd w A zs) :
    Calls Try.prog 20 #[.agg #[.slice A zs.length c]] w fun e w' => e = .returned (.tuple #[.int .i64 (offerB zs).1, .int .i64 (offerB zs).2.1, .int .i64 (offerB zs).2.2]) ∧ Below w.heap.size w w' := by
  have HA := Lib.hid (hA.below (below_alloc w (.cells #[.slice A zs.length c] 26))); clear hA
  cases ha : arenaB zs
  · have HV := Lib.hid (offer_bad ha)
    go_enter Try.func20, Try.ntmps20
    go_wp2_with fail
    refine (specArenaOK_any _ _ zs _ hn HA.out).mono ?_
    rintro e w1 ⟨rfl, hb⟩
    have HB := Lib.hid (below_trans (below_alloc _ _) hb); clear hb
    rw [ha]
    go_wp2
    refine bodyPost_ret (v := .tuple #[.int .i64 0, .int .i64 0, .int .i64 1]) (by simp [results, Try.results20, go_sem]) rfl ⟨by rw [HV.out], HB.out⟩
  · have HR := Lib.hid ha
    obtain ⟨_, _, h0, hws⟩ := arenaB_parts ha
    clear h0 ha
    have hb6 := loadZ_word hws 6
    generalize h6 : loadZ zs 6 = a at *
    have hb7 := loadZ_word hws (a + 1)
    have hb8 := loadZ_word hws (a + 2)
    have hb9 := loadZ_word hws a
    generalize h7 : loadZ zs (a + 1) = q at *
    generalize h8 : loadZ zs (a + 2) = x at *
    generalize h9 : loadZ zs a = y at *
    have H6 := Lib.hid h6; have H7 := Lib.hid h7; have H8 := Lib.hid h8; have H9 := Lib.hid h9
    have hwx : IntKind.i64.wrap (x - 1) = x - 1 := IntWalk.i64_in _ (by omega)
    have hwa : IntKind.i64.wrap (a + 1) = a + 1 := IntWalk.i64_in _ (by omega)
    have hwb : IntKind.i64.wrap (a + 2) = a + 2 := IntWalk.i64_in _ (by omega)
    have hwy : IntKind.i64.wrap (y - 1) = y - 1 := IntWalk.i64_in _ (by omega)
    clear h6 h7 h8 h9 hb6 hb7 hb8 hb9 hws
    go_enter Try.func20, Try.ntmps20
    go_wp2_with fail
    refine (specArenaOK_any _ _ zs _ hn HA.out).mono ?_
    rintro e w1 ⟨rfl, hb⟩
    have HB := Lib.hid (below_trans (below_alloc _ _) hb)
    have HA1 := Lib.hid (HA.out.below hb)
    have hx1 : w1.cell? ⟨w.heap.size, 0, none⟩ = some (.slice A zs.length c) := cell_keep hb (by simp)
    clear hb HA
    rw [HR.out]
    go_wp2_with fail
    refine (l01Load_any _ _ zs _ _ hn HA1.out).mono ?_
    rintro e w2 ⟨rfl, hb⟩
    rw [H6.out]
    have HB2 := Lib.hid (below_trans HB.out hb)
    have HA2 := Lib.hid (HA1.out.below hb)
    have hx2 : w2.cell? ⟨w.heap.size, 0, none⟩ = some (.slice A zs.length c) := cell_keep hb hx1
    clear hb HA1 HB hx1
    by_cases hz : a = 0
    · have HV := Lib.hid (offer_none HR.out (H6.out.trans hz))
      subst hz
      go_wp2
      refine bodyPost_ret (v := .tuple #[.int .i64 0, .int .i64 0, .int .i64 5]) (by simp [results, Try.results20, go_sem]) rfl ⟨by rw [HV.out], HB2.out⟩
    · have hd : (a == 0) = false := by simp [hz]
      go_wp2_with fail
      refine (l01Load_any _ _ zs _ _ hn HA2.out).mono ?_
      rintro e u2 ⟨rfl, hb⟩
      rw [H7.out]
      have HB3 := Lib.hid (below_trans HB2.out hb)
      have HA3 := Lib.hid (HA2.out.below hb)
      have hx3 : u2.cell? ⟨w.heap.size, 0, none⟩ = some (.slice A zs.length c) := cell_keep hb hx2
      clear hb HA2 HB2 hx2
      by_cases hq : q = 0
      · have HV := Lib.hid (offer_there HR.out H6.out hz (H7.out.trans hq) H8.out H9.out)
        subst hq
        go_wp2_with fail
        go_region_held3 (fun w' => w'.cell? ⟨w.heap.size, 0, none⟩ = some (.slice A zs.length c)) (first | exact hx3 | exact cell_keep hb3 hx3 | exact cell_keep hb4 (cell_keep hb3 hx3))
          (first
            | (go_at_call 41; (with_reducible refine (l01Load_any _ _ zs (a + 2) _ hn HA3.out.drew).mono ?_); rintro e u3 ⟨rfl, hb3⟩; rw [H8.out])
            | (go_at_call 41; (with_reducible refine (l01Load_any _ _ zs a _ hn (HA3.out.drew.below hb3)).mono ?_); rintro e u4 ⟨rfl, hb4⟩; rw [H9.out]))
        have HB4 := Lib.hid (below_trans HB3.out (below_drew_trans (below_trans hb3 hb4)))
        clear hb3 hb4
        go_wp2
        refine bodyPost_ret (v := .tuple #[.int .i64 (x - 1), .int .i64 (y - 1), .int .i64 0]) (by simp [results, Try.results20, go_sem]) rfl ⟨by rw [HV.out], HB4.out⟩
      · have HV := Lib.hid (offer_came HR.out H6.out (by rw [H7.out]; exact hq))
        have hd7 : (q != 0) = true := by simp [hq]
        go_wp2
        refine bodyPost_ret (v := .tuple #[.int .i64 0, .int .i64 0, .int .i64 5]) (by simp [results, Try.results20, go_sem]) rfl ⟨by rw [HV.out], HB3.out⟩
end Go.Proofs.Ytndaeciadcgkbaa
