/-
  Contracts of the laws' helpers over lists of integers and arenas.
-/
import Derived.Test.YtiogebflfnicgaaMem
namespace Go.Proofs.Ytiogebflfnicgaa
open Go.RowKit

theorem Try.infoInt : (Try.prog.info? 3).map (fun i => (i.zero, i.size, i.bytes)) = some (some (.int .i64 0), 1, 8) := by kernel_rfl

/-- What the size check leaves. -/
def leftB (l : Int) (n : Nat) : Int := if l - n < 0 then -1 else l - n
theorem leftB_neg {l : Int} {n : Nat} (h : leftB l n < 0) : leftB l n = -1 := by
  unfold leftB at *
  by_cases h' : l - n < 0
  · rw [if_pos h']
  · rw [if_neg h'] at h; omega

set_option maxHeartbeats 400000 in
theorem szIntS_any (A : Option Addr) (n c : Nat) (l : Int) (w : World) (hn : n ≤ maxLen) (h0 : 0 ≤ l) (h1 : l ≤ 1048576) :
    Calls Try.prog 36 #[.slice A n c, .int .i64 l] w fun e w' => e = .returned (.int .i64 (leftB l n)) ∧ w = w' := by
  unfold maxLen at hn
  by_cases hlt : l - (n : Int) < 0
  · have hL : leftB l n = -1 := by unfold leftB; rw [if_pos hlt]
    have HL := Lib.hid hL; clear hL
    go_enter Try.func36, Try.ntmps36
    go_wp2
    go_ret
    exact ⟨ret_int HL.out.symm, rfl⟩
  · have hL : leftB l n = l - n := by unfold leftB; rw [if_neg hlt]
    have HL := Lib.hid hL; clear hL
    go_enter Try.func36, Try.ntmps36
    go_wp2
    go_ret
    exact ⟨ret_int HL.out.symm, rfl⟩

set_option maxHeartbeats 400000 in
theorem szArena_any (A : Option Addr) (n c : Nat) (l : Int) (w : World) (hn : n ≤ maxLen) (h0 : 0 ≤ l) (h1 : l ≤ 1048576) :
    Calls Try.prog 70 #[.agg #[.slice A n c], .int .i64 l] w fun e w' => e = .returned (.int .i64 (leftB l n)) ∧ Below w.heap.size w w' := by
  by_cases hlt : leftB l n < 0
  · have hL : leftB l n = -1 := leftB_neg hlt
    have HL := Lib.hid hL; clear hL
    go_enter Try.func70, Try.ntmps70
    go_wp2_with (go_at_call 36; refine (szIntS_any _ _ _ _ _ hn h0 h1).mono ?_; rintro e w' ⟨rfl, rfl⟩)
    go_ret
    exact ⟨ret_int HL.out.symm, below_alloc _ _⟩
  · go_enter Try.func70, Try.ntmps70
    go_wp2_with (go_at_call 36; refine (szIntS_any _ _ _ _ _ hn h0 h1).mono ?_; rintro e w' ⟨rfl, rfl⟩)
    go_ret
    exact ⟨rfl, below_alloc _ _⟩

set_option maxHeartbeats 1000000 in
theorem toIntS_any (A : Option Addr) (c : Nat) (zs : List Int) (w : World) (hn : zs.length ≤ 1048576) (hA : Rd w A zs) :
    Calls Try.prog 41 #[.slice A zs.length c] w fun e w' => e = .returned (.slice (some ⟨w.heap.size, 0, none⟩) zs.length zs.length) ∧
      w'.ownsRow w.heap.size 3 1 (.slice (some ⟨w.heap.size, 0, none⟩) zs.length zs.length) zs.length (ints zs) ∧ Below w.heap.size w w' := by
  obtain ⟨i0, hi, hz0, hz1, hz2⟩ := info_parts Try.infoInt
  have hb2 : i0.bytes * zs.length ≤ 281474976710656 := by rw [hz2]; omega
  have hml : zs.length ≤ maxLen := by unfold maxLen; omega
  have Hi := Lib.hid hi; have Hz0 := Lib.hid hz0; have Hz1 := Lib.hid hz1; have Hz2 := Lib.hid hz2
  have Hb2 := Lib.hid hb2; have Hml := Lib.hid hml
  clear hi hz0 hz1 hz2 hb2 hml
  have HA := Lib.hid hA; clear hA
  go_enter Try.func41, Try.ntmps41
  go_wp2_with (at_make; refine wpList_make_full _ rfl (.tmp 6) (.tmp 6) 22 rfl w.heap.size 3 i0 (.int .i64 0) 1 Try.underlying22 Hi.out Hz0.out Hz1.out .i64 .i64 _ _ zs.length rfl rfl rfl rfl Hb2.out Hml.out (Nat.le_refl _) ?_)
  intro w1 hown hgr
  have hb := below_grown hgr
  rw [made_zero, ← fillTo_zero] at hown
  have HO := Lib.hid hown; have HB := Lib.hid hb
  clear hown hgr hb
  go_wp2
  go_loopw [4] (fun i wr => ∃ k : Nat, k ≤ zs.length ∧ i = .int .i64 k ∧ wr.ownsRow w.heap.size 3 1 (.slice (some ⟨w.heap.size, 0, none⟩) zs.length zs.length) zs.length (ints (fillTo zs k)) ∧ Below w.heap.size w wr)
    (fun i _ => zs.length - (intOf i).toNat)
  case atStart => exact ⟨0, Nat.zero_le _, rfl, HO.out, HB.out⟩
  case round =>
    obtain ⟨k, hk, rfl, hown, hbl⟩ := hrel
    have HO' := Lib.hid hown; have HB' := Lib.hid hbl
    clear hown hbl
    by_cases hlt : k < zs.length
    · obtain ⟨b, o, rfl, hcell⟩ := (HA.out.below HB'.out) k hlt
      have hold : wr.cell? ⟨w.heap.size, k, none⟩ = some (.int .i64 ((fillTo zs k).getD k 0)) := by
        rw [World.ownsRow.cellAt HO'.out k (by omega)]; exact ints_get _ _ (by rw [fillTo_length]; exact hlt)
      have hfz := HO'.out.frozenAt k
      have HS := Lib.hid (HO'.out.stored k (.int .i64 (zs.getD k 0)))
      generalize hx : zs.getD k 0 = x at *
      generalize hy : (fillTo zs k).getD k 0 = y at *
      have HX := Lib.hid hx
      clear hx hy
      go_wp2
      go_roundw
      case rel =>
        have h1 := HS.out.1
        rw [ints_set, ← HX.out, fillTo_set _ _ hlt, HX.out] at h1
        exact ⟨k + 1, by omega, by go_num, h1, HB'.out.setCell (Nat.le_refl _) _⟩
      case measure => simp [intOf]; omega
    · have hfin : Hid (fillTo zs k = zs) := fillTo_all _ _ (by omega)
      go_wp2
      go_ret
      refine ⟨rfl, ?_, HB'.out⟩
      have := HO'.out
      rw [hfin.out] at this
      exact this

set_option maxHeartbeats 1000000 in
theorem toArena_any (A : Option Addr) (c : Nat) (zs : List Int) (w : World) (hn : zs.length ≤ 1048576) (hA : Rd w A zs) :
    Calls Try.prog 76 #[.agg #[.slice A zs.length c]] w fun e w' => ∃ g, e = .returned (.agg #[.slice (some ⟨g, 0, none⟩) zs.length zs.length]) ∧
      w'.ownsRow w.heap.size 3 1 (.slice (some ⟨g, 0, none⟩) zs.length zs.length) zs.length (ints zs) ∧ Below w.heap.size w w' := by
  have HA := Lib.hid hA; clear hA
  go_enter Try.func76, Try.ntmps76
  go_wp2_with fail
  refine (toIntS_any _ _ _ _ hn (HA.out.below (((below_alloc _ _).alloc (by simp) _).alloc (by simp <;> omega) _))).mono ?_
  rintro e w' ⟨rfl, hown, hb⟩
  obtain ⟨hc, hf⟩ := bcell hb
  have HO := Lib.hid hown; have HB := Lib.hid hb
  clear hown hb
  go_wp2
  refine bodyPost_ret (v := .agg #[.slice (some ⟨w.heap.size + 1 + 1 + 1, 0, none⟩) zs.length zs.length]) (by simp [results, Try.results76, go_sem, hc]) rfl ⟨w.heap.size + 1 + 1 + 1, rfl, ?_, ?_⟩
  · have h := HO.out
    simp only [size_alloc] at h
    exact own_base (ownsRow_setCell_below (ownsRow_setCell_below h (by simp <;> omega) _) (by simp <;> omega) _) (by omega)
  · exact ((((below_alloc _ _).alloc (by simp) _).alloc (by simp <;> omega) _).trans (HB.out.mono (by simp <;> omega))).setCell (by simp <;> omega) _ |>.setCell (by simp) _
end Go.Proofs.Ytiogebflfnicgaa
