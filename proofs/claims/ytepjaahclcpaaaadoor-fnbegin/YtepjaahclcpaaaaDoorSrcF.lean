/-
  The source of choices with so many draws left: next, chance, call (the draws of the laws).
-/
import Derived.Test.YtepjaahclcpaaaaDoorNext
import Derived.Test.YtepjaahclcpaaaaDoorThB
namespace Go.Proofs.YtepjaahclcpaaaaDoor
open Go.RowKit

/-- The source has k draws left, at least. -/
def SrcF (w : World) (g B : Nat) (A : Option Addr) (n c k : Nat) : Prop := Src w g B A n c (1000000 - (k : Int))
theorem SrcF.mono {w : World} {g B : Nat} {A : Option Addr} {n c k k' : Nat} (h : SrcF w g B A n c k) (hk : k' ≤ k) : SrcF w g B A n c k' := Src.mono h (by omega)
theorem SrcF.lt {w : World} {g B : Nat} {A : Option Addr} {n c k : Nat} (h : SrcF w g B A n c k) : g < w.heap.size := Src.lt h
theorem SrcF.heap {w w' : World} {g B : Nat} {A : Option Addr} {n c k : Nat} (h : SrcF w g B A n c k) (hh : w'.heap = w.heap) : SrcF w' g B A n c k := Src.heap h hh
theorem SrcF.below {w w' : World} {g B : Nat} {A : Option Addr} {n c k : Nat} (h : SrcF w g B A n c k) (hb : Below w.heap.size w w') : SrcF w' g B A n c k := Src.below h hb
theorem SrcF.grown {w w' : World} {g B : Nat} {A : Option Addr} {n c k : Nat} {row : Option Nat} (h : SrcF w g B A n c k) (hg : w.grownBy w' row) (hr : ∀ j, row = some j → B ≤ j ∧ j ≠ g) : SrcF w' g B A n c k := Src.grown h hg hr
theorem SrcF.set {w : World} {g B : Nat} {A : Option Addr} {n c k : Nat} (h : SrcF w g B A n c k) {b : Nat} (hb : g < b) (i : Nat) (v : Value) : SrcF (w.setCell ⟨b, i, none⟩ v) g B A n c k :=
  h.grown (grown_setCell w b i v) (fun j hj => by have := Src.high h; simp only [Option.some.injEq] at hj; omega)

/-- What a draw of a number leaves. -/
def NextPost (q : Int) (w : World) (g B : Nat) (A : Option Addr) (n c k : Nat) (e : Ending) (w' : World) : Prop := ∃ r : Int, 0 ≤ r ∧ r < q ∧ e = .returned (.int .i64 r) ∧ SrcF w' g B A n c k ∧ w.grownBy w' (some g)
def ChancePost (w : World) (g B : Nat) (A : Option Addr) (n c k : Nat) (e : Ending) (w' : World) : Prop := ∃ b : Bool, e = .returned (.bool b) ∧ SrcF w' g B A n c k ∧ w.grownBy w' (some g)

theorem nextF (g B : Nat) (A : Option Addr) (n c k : Nat) (q : Int) (w : World) (hn : n ≤ maxLen) (hq1 : 1 < q) (hq2 : q ≤ 256) (hS : SrcF w g B A n c (k + 1)) :
    Calls Tryd.prog 29 #[.pointer (some ⟨g, 0, none⟩), .int .i64 q] w (NextPost q w g B A n c k) :=
  (next_small g B A n c _ q w (by omega) hn hq1 hq2 hS).mono fun e w' ⟨r, h0, h1, he, hs, hg⟩ => ⟨r, h0, h1, he, Src.mono hs (by omega), hg⟩

set_option maxHeartbeats 400000 in
theorem chanceF (g B : Nat) (A : Option Addr) (n c k : Nat) (q : Int) (w : World) (hn : n ≤ maxLen) (hq1 : 1 < q) (hq2 : q ≤ 256) (hS : SrcF w g B A n c (k + 1)) :
    Calls Tryd.prog 30 #[.pointer (some ⟨g, 0, none⟩), .int .i64 q] w (ChancePost w g B A n c k) := by
  have HS := Lib.hid hS; clear hS
  go_enter Tryd.func30, Tryd.ntmps30
  go_wp2_with fail
  refine (nextF g B A n c k q _ hn hq1 hq2 HS.out).mono ?_
  rintro e w1 ⟨r, hr0, hr1, rfl, hS1, hg1⟩
  have HS1 := Lib.hid hS1; have HG1 := Lib.hid hg1; clear hS1 hg1
  go_wp2
  go_ret
  exact ⟨_, rfl, HS1.out, HG1.out⟩

/-- What a drawn call is. -/
def CallPost (w : World) (g B : Nat) (A : Option Addr) (n c k : Nat) (e : Ending) (w' : World) : Prop :=
  ∃ o a u : Int, opB o = true ∧ argB o a = true ∧ tilB o u = true ∧ e = .returned (.tuple #[.int .i64 o, .int .i64 a, .int .i64 u]) ∧ SrcF w' g B A n c k ∧ w.grownBy w' (some g)

theorem six0 {n : Int} (h0 : 0 ≤ n) (h : n < 6) : n = 0 ∨ n = 1 ∨ n = 2 ∨ n = 3 ∨ n = 4 ∨ n = 5 := by omega
theorem argB_brings {o a : Int} (h : bringsB o = true) (h0 : 0 ≤ a) (h1 : a < 90) : argB o a = true := by unfold argB; rw [if_pos h]; exact inB_iff.2 (by omega)
theorem tilB_waits {o u : Int} (h : waitB o = true) (h0 : 0 ≤ u) (h1 : u < 30) : tilB o (1 + u) = true := by unfold tilB; rw [if_pos h]; exact inB_iff.2 (by omega)
theorem tilB_zero (o : Int) : tilB o 0 = true := by unfold tilB; split <;> decide

set_option maxHeartbeats 2000000 in
theorem callF (g B : Nat) (A : Option Addr) (n c k : Nat) (w : World) (hn : n ≤ maxLen) (hS : SrcF w g B A n c (k + 4)) :
    Calls Tryd.prog 31 #[.pointer (some ⟨g, 0, none⟩)] w (CallPost w g B A n c k) := by
  have HS := Lib.hid hS; clear hS
  have HN := Lib.hid hn; clear hn
  go_enter Tryd.func31, Tryd.ntmps31
  go_wp2_with fail
  refine (nextF g B A n c (k + 3) 6 _ HN.out (by decide) (by decide) HS.out).mono ?_
  rintro e w1 ⟨r, hr0, hr1, rfl, hS1, hg1⟩
  have HS1 := Lib.hid hS1; have HG1 := Lib.hid hg1; clear hS1 hg1 HS
  rcases six0 hr0 hr1 with rfl | rfl | rfl | rfl | rfl | rfl
  all_goals clear hr0 hr1
  · have hwt : waitB 1 = true := by decide
    go_wp2_with fail
    refine (nextF g B A n c (k + 2) 90 _ HN.out (by decide) (by decide) HS1.out).mono ?_
    rintro e w2 ⟨a, ha0, ha1, rfl, hS2, hg2⟩
    have HS2 := Lib.hid hS2; have HG2 := Lib.hid (grown_trans HG1.out hg2); clear hS2 hg2 HS1 HG1
    go_wp2_with (go_at_call 24; refine (specIsWaiting_any _ _).mono ?_; rintro e w' ⟨rfl, rfl⟩)
    refine (chanceF g B A n c (k + 1) 3 _ HN.out (by decide) (by decide) (HS2.out.mono (by omega))).mono ?_
    rintro e w3 ⟨b, rfl, hS3, hg3⟩
    have HS3 := Lib.hid hS3; have HG3 := Lib.hid (grown_trans HG2.out hg3); clear hS3 hg3 HS2 HG2
    cases b
    · go_wp2
      go_ret3
      exact ⟨1, a, 0, by decide, argB_brings (by decide) ha0 ha1, tilB_zero _, rfl, HS3.out.mono (by omega), HG3.out⟩
    · go_wp2_with fail
      refine (nextF g B A n c k 30 _ HN.out (by decide) (by decide) HS3.out).mono ?_
      rintro e w4 ⟨u, hu0, hu1, rfl, hS4, hg4⟩
      have HS4 := Lib.hid hS4; have HG4 := Lib.hid (grown_trans HG3.out hg4); clear hS4 hg4 HS3 HG3
      go_wp2
      go_ret3
      exact ⟨1, a, 1 + u, by decide, argB_brings (by decide) ha0 ha1, tilB_waits (by decide) hu0 hu1, rfl, HS4.out.mono (by omega), HG4.out⟩
  · have hwt : waitB 2 = true := by decide
    go_wp2_with (go_at_call 24; refine (specIsWaiting_any _ _).mono ?_; rintro e w' ⟨rfl, rfl⟩)
    refine (chanceF g B A n c (k + 1) 3 _ HN.out (by decide) (by decide) (HS1.out.mono (by omega))).mono ?_
    rintro e w3 ⟨b, rfl, hS3, hg3⟩
    have HS3 := Lib.hid hS3; have HG3 := Lib.hid (grown_trans HG1.out hg3); clear hS3 hg3 HS1 HG1
    cases b
    · go_wp2
      go_ret3
      exact ⟨2, 0, 0, by decide, by decide, tilB_zero _, rfl, HS3.out.mono (by omega), HG3.out⟩
    · go_wp2_with fail
      refine (nextF g B A n c k 30 _ HN.out (by decide) (by decide) HS3.out).mono ?_
      rintro e w4 ⟨u, hu0, hu1, rfl, hS4, hg4⟩
      have HS4 := Lib.hid hS4; have HG4 := Lib.hid (grown_trans HG3.out hg4); clear hS4 hg4 HS3 HG3
      go_wp2
      go_ret3
      exact ⟨2, 0, 1 + u, by decide, by decide, tilB_waits (by decide) hu0 hu1, rfl, HS4.out.mono (by omega), HG4.out⟩
  · have hwt : waitB 3 = true := by decide
    go_wp2_with fail
    refine (nextF g B A n c (k + 2) 90 _ HN.out (by decide) (by decide) HS1.out).mono ?_
    rintro e w2 ⟨a, ha0, ha1, rfl, hS2, hg2⟩
    have HS2 := Lib.hid hS2; have HG2 := Lib.hid (grown_trans HG1.out hg2); clear hS2 hg2 HS1 HG1
    go_wp2_with (go_at_call 24; refine (specIsWaiting_any _ _).mono ?_; rintro e w' ⟨rfl, rfl⟩)
    refine (chanceF g B A n c (k + 1) 3 _ HN.out (by decide) (by decide) (HS2.out.mono (by omega))).mono ?_
    rintro e w3 ⟨b, rfl, hS3, hg3⟩
    have HS3 := Lib.hid hS3; have HG3 := Lib.hid (grown_trans HG2.out hg3); clear hS3 hg3 HS2 HG2
    cases b
    · go_wp2
      go_ret3
      exact ⟨3, a, 0, by decide, argB_brings (by decide) ha0 ha1, tilB_zero _, rfl, HS3.out.mono (by omega), HG3.out⟩
    · go_wp2_with fail
      refine (nextF g B A n c k 30 _ HN.out (by decide) (by decide) HS3.out).mono ?_
      rintro e w4 ⟨u, hu0, hu1, rfl, hS4, hg4⟩
      have HS4 := Lib.hid hS4; have HG4 := Lib.hid (grown_trans HG3.out hg4); clear hS4 hg4 HS3 HG3
      go_wp2
      go_ret3
      exact ⟨3, a, 1 + u, by decide, argB_brings (by decide) ha0 ha1, tilB_waits (by decide) hu0 hu1, rfl, HS4.out.mono (by omega), HG4.out⟩
  · have hwt : waitB 4 = false := by decide
    go_wp2_with fail
    refine (nextF g B A n c (k + 2) 90 _ HN.out (by decide) (by decide) HS1.out).mono ?_
    rintro e w2 ⟨a, ha0, ha1, rfl, hS2, hg2⟩
    have HS2 := Lib.hid hS2; have HG2 := Lib.hid (grown_trans HG1.out hg2); clear hS2 hg2 HS1 HG1
    go_wp2_with (go_at_call 24; refine (specIsWaiting_any _ _).mono ?_; rintro e w' ⟨rfl, rfl⟩)
    go_ret3
    exact ⟨4, a, 0, by decide, argB_brings (by decide) ha0 ha1, tilB_zero _, rfl, HS2.out.mono (by omega), HG2.out⟩
  · have hwt : waitB 5 = false := by decide
    go_wp2_with (go_at_call 24; refine (specIsWaiting_any _ _).mono ?_; rintro e w' ⟨rfl, rfl⟩)
    go_ret3
    exact ⟨5, 0, 0, by decide, by decide, tilB_zero _, rfl, HS1.out.mono (by omega), HG1.out⟩
  · have hwt : waitB 6 = false := by decide
    go_wp2_with (go_at_call 24; refine (specIsWaiting_any _ _).mono ?_; rintro e w' ⟨rfl, rfl⟩)
    go_ret3
    exact ⟨6, 0, 0, by decide, by decide, tilB_zero _, rfl, HS1.out.mono (by omega), HG1.out⟩
end Go.Proofs.YtepjaahclcpaaaaDoor
