/-
  Contracts: l01Load, l01Store, StoreCell of the model (chapter 2).
-/
import Derived.Test.YtnahdbkdonbofaaStore
namespace Go.Proofs.Ytnahdbkdonbofaa
open Go.RowKit

def loadZ (zs : List Int) (p : Int) : Int := if inB p 1 ((zs.length : Int) - 1) = true then zs.getD p.toNat 0 else 0
def putZ (zs : List Int) (p v : Int) : List Int := if inB p 1 ((zs.length : Int) - 1) = true ∧ wordB v = true then zs.set p.toNat v else zs
theorem putZ_length (zs : List Int) (p v : Int) : (putZ zs p v).length = zs.length := by
  unfold putZ; split <;> simp

set_option maxHeartbeats 1000000 in
theorem l01Load_any (A : Option Addr) (c : Nat) (zs : List Int) (p : Int) (w : World) (hn : zs.length ≤ 1048576) (hA : Rd w A zs) :
    Calls Try.prog 73 #[.agg #[.slice A zs.length c], .int .i64 p] w fun e w' => e = .returned (.int .i64 (loadZ zs p)) ∧ Below w.heap.size w w' := by
  have HA := Lib.hid (hA.below (below_alloc w (.cells #[.slice A zs.length c] 25))); clear hA
  cases hi : inB p 1 ((zs.length : Int) - 1)
  · have HV : Hid (loadZ zs p = 0) := by unfold loadZ; rw [if_neg (by rw [hi]; decide)]; rfl
    go_enter Try.func73, Try.ntmps73
    go_wp2_with (go_at_call 62; refine (l01In_any _ _ _ _).mono ?_; rintro e w' ⟨rfl, rfl⟩)
    go_ret
    exact ⟨ret_int HV.out.symm, below_alloc _ _⟩
  · have hb := inB_true hi
    obtain ⟨k, rfl⟩ := Int.eq_ofNat_of_zero_le (by omega : 0 ≤ p)
    have hk : k < zs.length := by omega
    have HV : Hid (loadZ zs k = zs.getD k 0) := by unfold loadZ; rw [if_pos hi, Int.toNat_natCast]; rfl
    obtain ⟨b, o, rfl, hcell⟩ := HA.out k hk
    generalize hx : zs.getD k 0 = x at *
    clear hx
    go_enter Try.func73, Try.ntmps73
    go_wp2_with (go_at_call 62; refine (l01In_any _ _ _ _).mono ?_; rintro e w' ⟨rfl, rfl⟩)
    go_ret
    exact ⟨ret_int HV.out.symm, below_alloc _ _⟩

theorem NewA.put {B : Nat} {w : World} {g c : Nat} {zs : List Int} (h : NewA B w (some ⟨g, 0, none⟩) c zs) (k : Nat) (v : Int) : NewA B (w.setCell ⟨g, k, none⟩ (.int .i64 v)) (some ⟨g, 0, none⟩) c (zs.set k v) := by
  unfold NewA at *
  have := (h.stored k (.int .i64 v)).1
  rw [ints_set] at this
  rwa [List.length_set]

theorem eqArena_same (A B : Option Addr) (c d : Nat) (xs : List Int) (w : World) (hn : xs.length ≤ maxLen) (hA : Rd w A xs) (hB : Rd w B xs) :
    Calls Try.prog 35 #[.agg #[.slice A xs.length c], .agg #[.slice B xs.length d]] w fun e w' => e = .returned (.bool true) ∧ Below w.heap.size w w' :=
  (eqArena_any A B c d xs xs w hn hn hA hB).mono fun e w' ⟨he, hb⟩ => ⟨by rw [he, decide_eq_true rfl], hb⟩
theorem NewA.kept {B : Nat} {w w' : World} {A : Option Addr} {c : Nat} {zs : List Int} {row : Option Nat} (h : NewA B w A c zs) (hg : w.grownBy w' row) (hne : Value.ownBlock (.slice A zs.length c) = none ∨ Value.ownBlock (.slice A zs.length c) ≠ row) : NewA B w' A c zs := World.ownsRow.kept h hg hne
theorem ranges_ne {v u : Value} {lo hi lo' hi' : Nat} (h1 : ∀ k, v.ownBlock = some k → lo ≤ k ∧ k < hi) (h2 : ∀ k, u.ownBlock = some k → lo' ≤ k ∧ k < hi') (hd : hi ≤ lo' ∨ hi' ≤ lo) : v.ownBlock = none ∨ v.ownBlock ≠ u.ownBlock := by
  cases hv : v.ownBlock with
  | none => exact .inl rfl
  | some k =>
    refine .inr fun e => ?_
    have a := h1 k hv
    have b := h2 k e.symm
    omega
theorem below_drew_trans {w w' : World} (h : Below w.drew.heap.size w.drew w') : Below w.heap.size w w' := ⟨h.os, h.tape, h.output, h.size, h.block⟩
theorem storeZs_len (zs : List Int) (p v : Int) : (storeZs zs p v).length ≤ zs.length := by
  unfold storeZs; split <;> simp

theorem frozen_keep {w w' : World} (hb : Below w.heap.size w w') {b o : Nat} (hlt : b < w.heap.size) (h : w.frozen? ⟨b, o, none⟩ = false) : w'.frozen? ⟨b, o, none⟩ = false :=
  (hb.frozen (p := ⟨b, o, none⟩) hlt).trans h

set_option maxHeartbeats 1000000 in
theorem l01Store_any (A : Option Addr) (c : Nat) (zs : List Int) (p v : Int) (w : World) (hn : zs.length ≤ 1048576) (hA : Rd w A zs) :
    Calls Try.prog 56 #[.agg #[.slice A zs.length c], .int .i64 p, .int .i64 v] w fun e w' => ∃ B d, e = .returned (.agg #[.slice B zs.length d]) ∧ NewA w.heap.size w' B d (putZ zs p v) ∧ Below w.heap.size w w' := by
  have HA := Lib.hid (hA.below (below_alloc2 w (.cells #[.slice A zs.length c] 25) (.cells #[.slice none 0 0] 25))); clear hA
  have HL := Lib.hid (putZ_length zs p v)
  cases hi : inB p 1 ((zs.length : Int) - 1)
  · have HV : Hid (putZ zs p v = zs) := by unfold putZ; rw [if_neg (by rw [hi]; intro h; cases h.1)]; rfl
    go_enter Try.func56, Try.ntmps56
    go_wp2_with fail
    refine (l01Own_any _ _ zs _ hn HA.out).mono ?_
    rintro e w1 ⟨B, d, rfl, hnew, hb⟩
    have HB := Lib.hid (below_trans (below_alloc2 _ _ _) hb)
    have hx1 : w1.cell? ⟨w.heap.size, 0, none⟩ = some (.slice A zs.length c) := cell_keep hb (by simp)
    have hfx1 : w1.frozen? ⟨w.heap.size, 0, none⟩ = false := frozen_keep hb (by simp <;> omega) (by simp)
    have hr1 : w1.cell? ⟨w.heap.size + 1, 0, none⟩ = some (.slice none 0 0) := cell_keep hb (by simp)
    have hf1 : w1.frozen? ⟨w.heap.size + 1, 0, none⟩ = false := frozen_keep hb (by simp) (by simp)
    have HO := Lib.hid hnew
    clear hb hnew
    go_wp2_with (go_at_call 62; refine (l01In_any _ _ _ _).mono ?_; rintro e w' ⟨rfl, rfl⟩)
    refine bodyPost_ret (v := .agg #[.slice B zs.length d]) (by simp [results, Try.results56, go_sem, hr1]) rfl ⟨B, d, rfl, ?_, (HB.out.setCell (by simp) _).setCell (by simp) _⟩
    rw [HV.out]
    exact ((HO.out.setCell (by simp <;> omega) _).setCell (by simp) _).base (by simp <;> omega)
  · cases hw : wordB v
    · have HV : Hid (putZ zs p v = zs) := by unfold putZ; rw [if_neg (by rw [hw]; intro h; cases h.2)]; rfl
      go_enter Try.func56, Try.ntmps56
      go_wp2_with fail
      refine (l01Own_any _ _ zs _ hn HA.out).mono ?_
      rintro e w1 ⟨B, d, rfl, hnew, hb⟩
      have HB := Lib.hid (below_trans (below_alloc2 _ _ _) hb)
      have hx1 : w1.cell? ⟨w.heap.size, 0, none⟩ = some (.slice A zs.length c) := cell_keep hb (by simp)
      have hfx1 : w1.frozen? ⟨w.heap.size, 0, none⟩ = false := frozen_keep hb (by simp <;> omega) (by simp)
      have hr1 : w1.cell? ⟨w.heap.size + 1, 0, none⟩ = some (.slice none 0 0) := cell_keep hb (by simp)
      have hf1 : w1.frozen? ⟨w.heap.size + 1, 0, none⟩ = false := frozen_keep hb (by simp) (by simp)
      have HO := Lib.hid hnew
      clear hb hnew
      go_wp2_with (first | (go_at_call 62; refine (l01In_any _ _ _ _).mono ?_; rintro e w' ⟨rfl, rfl⟩) | (go_at_call 55; refine (l01Word_any _ _).mono ?_; rintro e w' ⟨rfl, rfl⟩))
      refine bodyPost_ret (v := .agg #[.slice B zs.length d]) (by simp [results, Try.results56, go_sem, hr1]) rfl ⟨B, d, rfl, ?_, (HB.out.setCell (by simp) _).setCell (by simp) _⟩
      rw [HV.out]
      exact ((HO.out.setCell (by simp <;> omega) _).setCell (by simp) _).base (by simp <;> omega)
    · have hbd := inB_true hi
      obtain ⟨k, rfl⟩ := Int.eq_ofNat_of_zero_le (by omega : 0 ≤ p)
      have hk : k < zs.length := by omega
      have HV : Hid (putZ zs k v = zs.set k v) := by unfold putZ; rw [if_pos ⟨hi, hw⟩, Int.toNat_natCast]; rfl
      go_enter Try.func56, Try.ntmps56
      go_wp2_with fail
      refine (l01Own_any _ _ zs _ hn HA.out).mono ?_
      rintro e w1 ⟨B, d, rfl, hnew, hb⟩
      obtain ⟨g, rfl, hg⟩ : ∃ g, B = some ⟨g, 0, none⟩ ∧ w.heap.size + 1 + 1 ≤ g := by
        rcases hnew.2 with ⟨hv, h0⟩ | ⟨g, cap, cur, hv, hg, _⟩
        · omega
        · simp only [Value.slice.injEq] at hv
          exact ⟨g, hv.1, by simpa using hg⟩
      have HB := Lib.hid (below_trans (below_alloc2 _ _ _) hb)
      have hx1 : w1.cell? ⟨w.heap.size, 0, none⟩ = some (.slice A zs.length c) := cell_keep hb (by simp)
      have hfx1 : w1.frozen? ⟨w.heap.size, 0, none⟩ = false := frozen_keep hb (by simp <;> omega) (by simp)
      have hr1 : w1.cell? ⟨w.heap.size + 1, 0, none⟩ = some (.slice none 0 0) := cell_keep hb (by simp)
      have hf1 : w1.frozen? ⟨w.heap.size + 1, 0, none⟩ = false := frozen_keep hb (by simp) (by simp)
      have hown := hnew
      unfold NewA at hown
      have hold : w1.cell? ⟨g, k, none⟩ = some (.int .i64 (zs.getD k 0)) := by
        rw [World.ownsRow.cellAt hown k (by omega)]; exact ints_get _ _ hk
      have hfz := hown.frozenAt k
      generalize hy : zs.getD k 0 = y at *
      have HO : Hid (NewA (w.heap.size + 1 + 1) w1 (some ⟨g, 0, none⟩) d zs) := hnew.base (by simp)
      clear hb hnew hown hy
      have hne1 : g ≠ w.heap.size := by omega
      have hne2 : g ≠ w.heap.size + 1 := by omega
      go_wp2_with (first | (go_at_call 62; refine (l01In_any _ _ _ _).mono ?_; rintro e w' ⟨rfl, rfl⟩) | (go_at_call 55; refine (l01Word_any _ _).mono ?_; rintro e w' ⟨rfl, rfl⟩))
      refine bodyPost_ret (v := .agg #[.slice (some ⟨g, 0, none⟩) zs.length d]) (by simp [results, Try.results56, go_sem, hr1, hne2]) rfl ⟨some ⟨g, 0, none⟩, d, rfl, ?_, ((HB.out.setCell (by simp) _).setCell (by simp <;> omega) _).setCell (by simp) _⟩
      rw [HV.out]
      exact (((HO.out.setCell (by simp <;> omega) _).put k v).setCell (by simp) _).base (by omega)

set_option maxHeartbeats 1000000 in
theorem specStoreCell_any (A : Option Addr) (c : Nat) (zs : List Int) (p v : Int) (w : World) (hn : zs.length ≤ 1048576) (hA : Rd w A zs) :
    Calls Try.prog 20 #[.agg #[.slice A zs.length c], .int .i64 p, .int .i64 v] w fun e w' => ∃ B d, e = .returned (.tuple #[.agg #[.slice B (storeZs zs p v).length d], .int .i64 (writeCode zs p v)]) ∧
      NewA w.heap.size w' B d (storeZs zs p v) ∧ Below w.heap.size w w' := by
  have HA := Lib.hid (hA.below (below_alloc2 w (.cells #[.slice A zs.length c] 25) (.cells #[.slice none 0 0] 25))); clear hA
  cases hz : (cellCode zs p != 0)
  · have h0 : cellCode zs p = 0 := by simpa using hz
    obtain ⟨_, h1, h2⟩ := cellCode_zero h0
    cases hw : wordB v
    · have hc4 : writeCode zs p v = 4 := by unfold writeCode; rw [if_pos h0, hw]; rfl
      have HV : Hid (storeZs zs p v = []) := by unfold storeZs; rw [if_neg (by rw [hc4]; decide)]; rfl
      have HC := Lib.hid hc4
      clear h0 hc4
      go_enter Try.func20, Try.ntmps20
      go_wp2_with fail
      refine (l01Ask_any _ _ zs _ _ hn HA.out).mono ?_
      rintro e w1 ⟨rfl, hb⟩
      have HB := Lib.hid (below_trans (below_alloc2 _ _ _) hb)
      have hr1 : w1.cell? ⟨w.heap.size + 1, 0, none⟩ = some (.slice none 0 0) := cell_keep hb (by simp)
      have hf1 : w1.frozen? ⟨w.heap.size + 1, 0, none⟩ = false := frozen_keep hb (by simp) (by simp)
      clear hb
      go_wp2_with (go_at_call 55; refine (l01Word_any _ _).mono ?_; rintro e w' ⟨rfl, rfl⟩)
      refine bodyPost_ret (v := .tuple #[.agg #[.slice none 0 0], .int .i64 4]) (by simp [results, Try.results20, go_sem, hr1]) rfl ⟨none, 0, ?_, ?_, HB.out.setCell (by simp) _⟩
      · rw [HV.out]; exact ret_agg_int HC.out.symm
      · rw [HV.out]; exact NewA.nil _ _
    · have hc0 : writeCode zs p v = 0 := by unfold writeCode; rw [if_pos h0, hw]; rfl
      have HV : Hid (storeZs zs p v = putZ zs p v) := by
        unfold storeZs putZ; rw [if_pos hc0, if_pos ⟨by simp [inB]; omega, hw⟩]; rfl
      have HC := Lib.hid hc0
      have HL := Lib.hid (putZ_length zs p v)
      clear h0 hc0
      go_enter Try.func20, Try.ntmps20
      go_wp2_with fail
      refine (l01Ask_any _ _ zs _ _ hn HA.out).mono ?_
      rintro e w1 ⟨rfl, hb⟩
      have HB := Lib.hid (below_trans (below_alloc2 _ _ _) hb)
      have HA1 := Lib.hid (HA.out.below hb)
      have hz1 : w.heap.size + 1 < w1.heap.size := by have := hb.size; simp at this; omega
      have hx1 : w1.cell? ⟨w.heap.size, 0, none⟩ = some (.slice A zs.length c) := cell_keep hb (by simp)
      have hr1 : w1.cell? ⟨w.heap.size + 1, 0, none⟩ = some (.slice none 0 0) := cell_keep hb (by simp)
      have hf1 : w1.frozen? ⟨w.heap.size + 1, 0, none⟩ = false := frozen_keep hb (by simp) (by simp)
      clear hb
      go_wp2_with (first | (go_at_call 55; refine (l01Word_any _ _).mono ?_; rintro e w' ⟨rfl, rfl⟩) | fail)
      refine (l01Store_any _ _ zs _ _ _ hn HA1.out).mono ?_
      rintro e w2 ⟨B, d, rfl, hnew, hb⟩
      have HB2 := Lib.hid (below_trans HB.out hb)
      have hr2 : w2.cell? ⟨w.heap.size + 1, 0, none⟩ = some (.slice none 0 0) := cell_keep hb hr1
      have hf2 : w2.frozen? ⟨w.heap.size + 1, 0, none⟩ = false := frozen_keep hb hz1 hf1
      have HO := Lib.hid hnew
      clear hb hnew hx1 hr1 hf1
      go_wp2
      refine bodyPost_ret (v := .tuple #[.agg #[.slice B zs.length d], .int .i64 0]) (by simp [results, Try.results20, go_sem, hr2]) rfl ⟨B, d, ?_, ?_, HB2.out.setCell (by simp) _⟩
      · rw [HV.out, HL.out]; exact ret_agg_int HC.out.symm
      · rw [HV.out]; exact (HO.out.setCell (by simp <;> omega) _).base (by omega)
  · have hne : cellCode zs p ≠ 0 := by simpa using hz
    have hcc : writeCode zs p v = cellCode zs p := by unfold writeCode; rw [if_neg hne]
    have HV : Hid (storeZs zs p v = []) := by unfold storeZs; rw [if_neg (by rw [hcc]; exact hne)]; rfl
    have HC := Lib.hid hcc
    clear hne hcc
    go_enter Try.func20, Try.ntmps20
    go_wp2_with fail
    refine (l01Ask_any _ _ zs _ _ hn HA.out).mono ?_
    rintro e w1 ⟨rfl, hb⟩
    have HB := Lib.hid (below_trans (below_alloc2 _ _ _) hb)
    have hr1 : w1.cell? ⟨w.heap.size + 1, 0, none⟩ = some (.slice none 0 0) := cell_keep hb (by simp)
    have hf1 : w1.frozen? ⟨w.heap.size + 1, 0, none⟩ = false := frozen_keep hb (by simp) (by simp)
    clear hb
    go_wp2
    refine bodyPost_ret (v := .tuple #[.agg #[.slice none 0 0], .int .i64 (cellCode zs p)]) (by simp [results, Try.results20, go_sem, hr1]) rfl ⟨none, 0, ?_, ?_, HB.out.setCell (by simp) _⟩
    · rw [HV.out]; exact ret_agg_int HC.out.symm
    · rw [HV.out]; exact NewA.nil _ _
end Go.Proofs.Ytnahdbkdonbofaa
