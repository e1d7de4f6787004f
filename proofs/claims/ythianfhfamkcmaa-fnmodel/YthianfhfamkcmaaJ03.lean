/-
  The source of choices with so many draws left: next, chance, call (the draws of the laws).
  Threads: contracts of the laws' own helpers: toIntA5, toThread, eqIntA5, eqThread.
  Two threads compared (struct and array compared), as the model runs it.
-/
import Derived.Test.YthianfhfamkcmaaJ01
import Derived.Test.YthianfhfamkcmaaJ02
namespace Go.Proofs.Ythianfhfamkcmaa
open Go.RowKit

/-- The source has k draws left, at least. -/
def SrcF (w : World) (g B : Nat) (A : Option Addr) (n c k : Nat) : Prop := Src w g B A n c (1000000 - (k : Int))
theorem SrcF.mono {w : World} {g B : Nat} {A : Option Addr} {n c k k' : Nat} (h : SrcF w g B A n c k) (hk : k' ≤ k) : SrcF w g B A n c k' := Src.mono h (by omega)
theorem SrcF.lt {w : World} {g B : Nat} {A : Option Addr} {n c k : Nat} (h : SrcF w g B A n c k) : g < w.heap.size := Src.lt h
theorem SrcF.heap {w w' : World} {g B : Nat} {A : Option Addr} {n c k : Nat} (h : SrcF w g B A n c k) (hh : w'.heap = w.heap) : SrcF w' g B A n c k := Src.heap h hh
theorem SrcF.below {w w' : World} {g B : Nat} {A : Option Addr} {n c k : Nat} (h : SrcF w g B A n c k) (hb : Below w.heap.size w w') : SrcF w' g B A n c k := Src.below h hb
theorem SrcF.grown {w w' : World} {g B : Nat} {A : Option Addr} {n c k : Nat} {row : Option Nat} (h : SrcF w g B A n c k) (hg : w.grownBy w' row) (hr : ∀ j, row = some j → B ≤ j ∧ j ≠ g) : SrcF w' g B A n c k := Src.grown h hg hr
theorem SrcF.set {w : World} {g B : Nat} {A : Option Addr} {n c k : Nat} (h : SrcF w g B A n c k) {b : Nat} (hb : g < b) (i : Nat) (v : Value) : SrcF (w.setCell ⟨b, i, none⟩ v) g B A n c k :=
  h.grown (grown_setCell w b i v) (fun j hj => by have := Src.high h; simp only [Option.some.injEq] at hj; omega)

/-- What a draw of a number leaves. -/
def NextPost (q : Int) (w : World) (g B : Nat) (A : Option Addr) (n c k : Nat) (e : Ending) (w' : World) : Prop := ∃ r : Int, 0 ≤ r ∧ r < q ∧ e = .returned (.int .i64 r) ∧ SrcF w' g B A n c k ∧ w.grownBy w' (some g)
def ChancePost (w : World) (g B : Nat) (A : Option Addr) (n c k : Nat) (e : Ending) (w' : World) : Prop := ∃ b : Bool, e = .returned (.bool b) ∧ SrcF w' g B A n c k ∧ w.grownBy w' (some g)

theorem nextF (g B : Nat) (A : Option Addr) (n c k : Nat) (q : Int) (w : World) (hn : n ≤ maxLen) (hq1 : 1 < q) (hq2 : q ≤ 256) (hS : SrcF w g B A n c (k + 1)) :
    Calls Try.prog 122 #[.pointer (some ⟨g, 0, none⟩), .int .i64 q] w (NextPost q w g B A n c k) :=
  (next_small g B A n c _ q w (by omega) hn hq1 hq2 hS).mono fun e w' ⟨r, h0, h1, he, hs, hg⟩ => ⟨r, h0, h1, he, Src.mono hs (by omega), hg⟩

set_option maxHeartbeats 400000 in
theorem chanceF (g B : Nat) (A : Option Addr) (n c k : Nat) (q : Int) (w : World) (hn : n ≤ maxLen) (hq1 : 1 < q) (hq2 : q ≤ 256) (hS : SrcF w g B A n c (k + 1)) :
    Calls Try.prog 161 #[.pointer (some ⟨g, 0, none⟩), .int .i64 q] w (ChancePost w g B A n c k) := by
  have HS := Lib.hid hS; clear hS
  go_enter Try.func161, Try.ntmps161
  go_wp2_with fail
  refine (nextF g B A n c k q _ hn hq1 hq2 HS.out).mono ?_
  rintro e w1 ⟨r, hr0, hr1, rfl, hS1, hg1⟩
  have HS1 := Lib.hid hS1; have HG1 := Lib.hid hg1; clear hS1 hg1
  go_wp2
  go_ret
  exact ⟨_, rfl, HS1.out, HG1.out⟩

/-- What a drawn call is. -/
def SrcPost (w : World) (g B : Nat) (A : Option Addr) (n c k : Nat) (e : Ending) (w' : World) : Prop :=
  ∃ o a u : Int, opB o = true ∧ argB o a = true ∧ tilB o u = true ∧ e = .returned (.tuple #[.int .i64 o, .int .i64 a, .int .i64 u]) ∧ SrcF w' g B A n c k ∧ w.grownBy w' (some g)

theorem six0 {n : Int} (h0 : 0 ≤ n) (h : n < 6) : n = 0 ∨ n = 1 ∨ n = 2 ∨ n = 3 ∨ n = 4 ∨ n = 5 := by omega
theorem argB_brings {o a : Int} (h : bringsB o = true) (h0 : 0 ≤ a) (h1 : a < 90) : argB o a = true := by unfold argB; rw [if_pos h]; exact inB_iff.2 (by omega)
theorem tilB_waits {o u : Int} (h : waitB o = true) (h0 : 0 ≤ u) (h1 : u < 30) : tilB o (1 + u) = true := by unfold tilB; rw [if_pos h]; exact inB_iff.2 (by omega)
theorem tilB_zero (o : Int) : tilB o 0 = true := by unfold tilB; split <;> decide

set_option maxHeartbeats 2000000 in
theorem callF (g B : Nat) (A : Option Addr) (n c k : Nat) (w : World) (hn : n ≤ maxLen) (hS : SrcF w g B A n c (k + 4)) :
    Calls Try.prog 123 #[.pointer (some ⟨g, 0, none⟩)] w (SrcPost w g B A n c k) := by
  have HS := Lib.hid hS; clear hS
  have HN := Lib.hid hn; clear hn
  go_enter Try.func123, Try.ntmps123
  go_wp2_with fail
  refine (nextF g B A n c (k + 3) 6 _ HN.out (by decide) (by decide) HS.out).mono ?_
  rintro e w1 ⟨r, hr0, hr1, rfl, hS1, hg1⟩
  have HS1 := Lib.hid hS1; have HG1 := Lib.hid hg1; clear hS1 hg1 HS
  rcases six0 hr0 hr1 with rfl | rfl | rfl | rfl | rfl | rfl
  all_goals clear hr0 hr1
  · have hwt : waitB 1 = true := by decide
    go_wp2_with fail
    refine (nextF g B A n c (k + 2) 90 _ HN.out (by decide) (by decide) HS1.out).mono ?_
    rintro e w2 ⟨a, ha0, ha1, rfl, hS2, hg2⟩
    have HS2 := Lib.hid hS2; have HG2 := Lib.hid (grown_trans HG1.out hg2); clear hS2 hg2 HS1 HG1
    go_wp2_with (go_at_call 160; refine (specIsWaiting_any _ _).mono ?_; rintro e w' ⟨rfl, rfl⟩)
    refine (chanceF g B A n c (k + 1) 3 _ HN.out (by decide) (by decide) (HS2.out.mono (by omega))).mono ?_
    rintro e w3 ⟨b, rfl, hS3, hg3⟩
    have HS3 := Lib.hid hS3; have HG3 := Lib.hid (grown_trans HG2.out hg3); clear hS3 hg3 HS2 HG2
    cases b
    · go_wp2
      go_ret3
      exact ⟨1, a, 0, by decide, argB_brings (by decide) ha0 ha1, tilB_zero _, rfl, HS3.out.mono (by omega), HG3.out⟩
    · go_wp2_with fail
      refine (nextF g B A n c k 30 _ HN.out (by decide) (by decide) HS3.out).mono ?_
      rintro e w4 ⟨u, hu0, hu1, rfl, hS4, hg4⟩
      have HS4 := Lib.hid hS4; have HG4 := Lib.hid (grown_trans HG3.out hg4); clear hS4 hg4 HS3 HG3
      go_wp2
      go_ret3
      exact ⟨1, a, 1 + u, by decide, argB_brings (by decide) ha0 ha1, tilB_waits (by decide) hu0 hu1, rfl, HS4.out.mono (by omega), HG4.out⟩
  · have hwt : waitB 2 = true := by decide
    go_wp2_with (go_at_call 160; refine (specIsWaiting_any _ _).mono ?_; rintro e w' ⟨rfl, rfl⟩)
    refine (chanceF g B A n c (k + 1) 3 _ HN.out (by decide) (by decide) (HS1.out.mono (by omega))).mono ?_
    rintro e w3 ⟨b, rfl, hS3, hg3⟩
    have HS3 := Lib.hid hS3; have HG3 := Lib.hid (grown_trans HG1.out hg3); clear hS3 hg3 HS1 HG1
    cases b
    · go_wp2
      go_ret3
      exact ⟨2, 0, 0, by decide, by decide, tilB_zero _, rfl, HS3.out.mono (by omega), HG3.out⟩
    · go_wp2_with fail
      refine (nextF g B A n c k 30 _ HN.out (by decide) (by decide) HS3.out).mono ?_
      rintro e w4 ⟨u, hu0, hu1, rfl, hS4, hg4⟩
      have HS4 := Lib.hid hS4; have HG4 := Lib.hid (grown_trans HG3.out hg4); clear hS4 hg4 HS3 HG3
      go_wp2
      go_ret3
      exact ⟨2, 0, 1 + u, by decide, by decide, tilB_waits (by decide) hu0 hu1, rfl, HS4.out.mono (by omega), HG4.out⟩
  · have hwt : waitB 3 = true := by decide
    go_wp2_with fail
    refine (nextF g B A n c (k + 2) 90 _ HN.out (by decide) (by decide) HS1.out).mono ?_
    rintro e w2 ⟨a, ha0, ha1, rfl, hS2, hg2⟩
    have HS2 := Lib.hid hS2; have HG2 := Lib.hid (grown_trans HG1.out hg2); clear hS2 hg2 HS1 HG1
    go_wp2_with (go_at_call 160; refine (specIsWaiting_any _ _).mono ?_; rintro e w' ⟨rfl, rfl⟩)
    refine (chanceF g B A n c (k + 1) 3 _ HN.out (by decide) (by decide) (HS2.out.mono (by omega))).mono ?_
    rintro e w3 ⟨b, rfl, hS3, hg3⟩
    have HS3 := Lib.hid hS3; have HG3 := Lib.hid (grown_trans HG2.out hg3); clear hS3 hg3 HS2 HG2
    cases b
    · go_wp2
      go_ret3
      exact ⟨3, a, 0, by decide, argB_brings (by decide) ha0 ha1, tilB_zero _, rfl, HS3.out.mono (by omega), HG3.out⟩
    · go_wp2_with fail
      refine (nextF g B A n c k 30 _ HN.out (by decide) (by decide) HS3.out).mono ?_
      rintro e w4 ⟨u, hu0, hu1, rfl, hS4, hg4⟩
      have HS4 := Lib.hid hS4; have HG4 := Lib.hid (grown_trans HG3.out hg4); clear hS4 hg4 HS3 HG3
      go_wp2
      go_ret3
      exact ⟨3, a, 1 + u, by decide, argB_brings (by decide) ha0 ha1, tilB_waits (by decide) hu0 hu1, rfl, HS4.out.mono (by omega), HG4.out⟩
  · have hwt : waitB 4 = false := by decide
    go_wp2_with fail
    refine (nextF g B A n c (k + 2) 90 _ HN.out (by decide) (by decide) HS1.out).mono ?_
    rintro e w2 ⟨a, ha0, ha1, rfl, hS2, hg2⟩
    have HS2 := Lib.hid hS2; have HG2 := Lib.hid (grown_trans HG1.out hg2); clear hS2 hg2 HS1 HG1
    go_wp2_with (go_at_call 160; refine (specIsWaiting_any _ _).mono ?_; rintro e w' ⟨rfl, rfl⟩)
    go_ret3
    exact ⟨4, a, 0, by decide, argB_brings (by decide) ha0 ha1, tilB_zero _, rfl, HS2.out.mono (by omega), HG2.out⟩
  · have hwt : waitB 5 = false := by decide
    go_wp2_with (go_at_call 160; refine (specIsWaiting_any _ _).mono ?_; rintro e w' ⟨rfl, rfl⟩)
    go_ret3
    exact ⟨5, 0, 0, by decide, by decide, tilB_zero _, rfl, HS1.out.mono (by omega), HG1.out⟩
  · have hwt : waitB 6 = false := by decide
    go_wp2_with (go_at_call 160; refine (specIsWaiting_any _ _).mono ?_; rintro e w' ⟨rfl, rfl⟩)
    go_ret3
    exact ⟨6, 0, 0, by decide, by decide, tilB_zero _, rfl, HS1.out.mono (by omega), HG1.out⟩
end Go.Proofs.Ythianfhfamkcmaa

namespace Go.Proofs.Ythianfhfamkcmaa
open Go.RowKit

def five (a0 a1 a2 a3 a4 : Int) : Array Value := #[.int .i64 a0, .int .i64 a1, .int .i64 a2, .int .i64 a3, .int .i64 a4]
/-- How far an array is copied. -/
def CopyRel (w : World) (a0 a1 a2 a3 a4 : Int) (i : Value) (wr : World) : Prop :=
  (i = .int .i64 0 ∧ wr = w.alloc (.cells #[.int .i64 0, .int .i64 0, .int .i64 0, .int .i64 0, .int .i64 0] 148)) ∨
  (i = .int .i64 1 ∧ wr = w.alloc (.cells #[.int .i64 a0, .int .i64 0, .int .i64 0, .int .i64 0, .int .i64 0] 148)) ∨
  (i = .int .i64 2 ∧ wr = w.alloc (.cells #[.int .i64 a0, .int .i64 a1, .int .i64 0, .int .i64 0, .int .i64 0] 148)) ∨
  (i = .int .i64 3 ∧ wr = w.alloc (.cells #[.int .i64 a0, .int .i64 a1, .int .i64 a2, .int .i64 0, .int .i64 0] 148)) ∨
  (i = .int .i64 4 ∧ wr = w.alloc (.cells #[.int .i64 a0, .int .i64 a1, .int .i64 a2, .int .i64 a3, .int .i64 0] 148)) ∨
  (i = .int .i64 5 ∧ wr = w.alloc (.cells #[.int .i64 a0, .int .i64 a1, .int .i64 a2, .int .i64 a3, .int .i64 a4] 148))

set_option maxHeartbeats 1000000 in
theorem toIntA5_exact (a0 a1 a2 a3 a4 : Int) (w : World) : Calls Try.prog 165 #[.agg #[.int .i64 a0, .int .i64 a1, .int .i64 a2, .int .i64 a3, .int .i64 a4]] w fun e w' => e = .returned (.agg #[.int .i64 a0, .int .i64 a1, .int .i64 a2, .int .i64 a3, .int .i64 a4]) ∧
    ((w.alloc (.cells #[.int .i64 a0, .int .i64 a1, .int .i64 a2, .int .i64 a3, .int .i64 a4] 148)).alloc (.cells #[.int .i64 a0, .int .i64 a1, .int .i64 a2, .int .i64 a3, .int .i64 a4] 148)).alloc (.cells #[.int .i64 a0, .int .i64 a1, .int .i64 a2, .int .i64 a3, .int .i64 a4] 148) = w' := by
  go_enter Try.func165, Try.ntmps165
  go_wp2
  go_loopw [4] (fun i wr => CopyRel ((w.alloc (.cells #[.int .i64 a0, .int .i64 a1, .int .i64 a2, .int .i64 a3, .int .i64 a4] 148)).alloc (.cells #[.int .i64 0, .int .i64 0, .int .i64 0, .int .i64 0, .int .i64 0] 148)) a0 a1 a2 a3 a4 i wr) (fun i _ => 5 - (intOf i).toNat)
  case atStart => exact .inl ⟨rfl, rfl⟩
  case round =>
    rcases hrel with ⟨rfl, rfl⟩ | ⟨rfl, rfl⟩ | ⟨rfl, rfl⟩ | ⟨rfl, rfl⟩ | ⟨rfl, rfl⟩ | ⟨rfl, rfl⟩
    · go_wp2
      go_roundw
      case rel => exact .inr (.inl ⟨rfl, rfl⟩)
      case measure => simp [intOf]
    · go_wp2
      go_roundw
      case rel => exact .inr (.inr (.inl ⟨rfl, rfl⟩))
      case measure => simp [intOf]
    · go_wp2
      go_roundw
      case rel => exact .inr (.inr (.inr (.inl ⟨rfl, rfl⟩)))
      case measure => simp [intOf]
    · go_wp2
      go_roundw
      case rel => exact .inr (.inr (.inr (.inr (.inl ⟨rfl, rfl⟩))))
      case measure => simp [intOf]
    · go_wp2
      go_roundw
      case rel => exact .inr (.inr (.inr (.inr (.inr ⟨rfl, rfl⟩))))
      case measure => simp [intOf]
    · go_wp2
      exact bodyPost_ret (v := .agg #[.int .i64 a0, .int .i64 a1, .int .i64 a2, .int .i64 a3, .int .i64 a4]) (by simp [results, Try.results165, go_sem]) rfl ⟨rfl, rfl⟩

/-- How far two arrays are compared. -/
def EqRel (w : World) (i : Value) (wr : World) : Prop := ∃ q : Nat, wr = w.drewN q ∧ (i = .int .i64 0 ∨ i = .int .i64 1 ∨ i = .int .i64 2 ∨ i = .int .i64 3 ∨ i = .int .i64 4 ∨ i = .int .i64 5)

set_option maxHeartbeats 1000000 in
theorem eqIntA5_same (a0 a1 a2 a3 a4 : Int) (w : World) : Calls Try.prog 170 #[.agg #[.int .i64 a0, .int .i64 a1, .int .i64 a2, .int .i64 a3, .int .i64 a4], .agg #[.int .i64 a0, .int .i64 a1, .int .i64 a2, .int .i64 a3, .int .i64 a4]] w fun e w' => e = .returned (.bool true) ∧ Below w.heap.size w w' := by
  go_enter Try.func170, Try.ntmps170
  go_wp2
  go_loopw [5] (fun i wr => EqRel ((w.alloc (.cells #[.int .i64 a0, .int .i64 a1, .int .i64 a2, .int .i64 a3, .int .i64 a4] 148)).alloc (.cells #[.int .i64 a0, .int .i64 a1, .int .i64 a2, .int .i64 a3, .int .i64 a4] 148)) i wr) (fun i _ => 5 - (intOf i).toNat)
  case atStart => exact ⟨0, rfl, .inl rfl⟩
  case round =>
    obtain ⟨q, rfl, hi⟩ := hrel
    rcases hi with rfl | rfl | rfl | rfl | rfl | rfl
    · go_wp2
      go_region
      all_goals
        go_wp2
        go_roundw
        case rel => exact ⟨q + 1, rfl, .inr (.inl rfl)⟩
        case measure => simp [intOf]
    · go_wp2
      go_region
      all_goals
        go_wp2
        go_roundw
        case rel => exact ⟨q + 1, rfl, .inr (.inr (.inl rfl))⟩
        case measure => simp [intOf]
    · go_wp2
      go_region
      all_goals
        go_wp2
        go_roundw
        case rel => exact ⟨q + 1, rfl, .inr (.inr (.inr (.inl rfl)))⟩
        case measure => simp [intOf]
    · go_wp2
      go_region
      all_goals
        go_wp2
        go_roundw
        case rel => exact ⟨q + 1, rfl, .inr (.inr (.inr (.inr (.inl rfl))))⟩
        case measure => simp [intOf]
    · go_wp2
      go_region
      all_goals
        go_wp2
        go_roundw
        case rel => exact ⟨q + 1, rfl, .inr (.inr (.inr (.inr (.inr rfl))))⟩
        case measure => simp [intOf]
    · go_wp2
      go_ret
      exact ⟨rfl, below_trans (below_alloc2 _ _ _) (below_drewN _)⟩
end Go.Proofs.Ythianfhfamkcmaa

namespace Go.Proofs.Ythianfhfamkcmaa
open Go.RowKit

def eqRegs (a0 a1 a2 a3 a4 b0 b1 b2 b3 b4 : Int) : Bool := a0 == b0 && a1 == b1 && a2 == b2 && a3 == b3 && a4 == b4
def eqTh (id st op arg pc til : Int) (per can : Bool) (r0 r1 r2 r3 r4 code res : Int) (id' st' op' arg' pc' til' : Int) (per' can' : Bool) (s0 s1 s2 s3 s4 code' res' : Int) : Bool :=
  id == id' && st == st' && op == op' && arg == arg' && pc == pc' && til == til' && per == per' && can == can' && eqRegs r0 r1 r2 r3 r4 s0 s1 s2 s3 s4 && code == code' && res == res'

theorem size_int (w : World) : (sizeOf 3).run Try.prog w = .ok 1 w := by kernel_rfl

theorem run_eq_regs (d : Nat) (a0 a1 a2 a3 a4 b0 b1 b2 b3 b4 : Int) (w : World) :
    (Op.equalIn (d + 2) 148 (.agg #[.int .i64 a0, .int .i64 a1, .int .i64 a2, .int .i64 a3, .int .i64 a4]) (.agg #[.int .i64 b0, .int .i64 b1, .int .i64 b2, .int .i64 b3, .int .i64 b4])).run Try.prog w = .ok (eqRegs a0 a1 a2 a3 a4 b0 b1 b2 b3 b4) w := by
  have pe : ∀ a b, (Op.equalIn (d + 1) 3 (.int .i64 a) (.int .i64 b)).run Try.prog w = .ok (a == b) w := fun a b => run_equalIn_int w d 3 .i64 .i64 a b Try.underlying3
  have px : ∀ (x0 x1 x2 x3 x4 : Int), (part 3 #[.int .i64 x0, .int .i64 x1, .int .i64 x2, .int .i64 x3, .int .i64 x4] 0).run Try.prog w = .ok (.int .i64 x0) w ∧
      (part 3 #[.int .i64 x0, .int .i64 x1, .int .i64 x2, .int .i64 x3, .int .i64 x4] 1).run Try.prog w = .ok (.int .i64 x1) w ∧
      (part 3 #[.int .i64 x0, .int .i64 x1, .int .i64 x2, .int .i64 x3, .int .i64 x4] 2).run Try.prog w = .ok (.int .i64 x2) w ∧
      (part 3 #[.int .i64 x0, .int .i64 x1, .int .i64 x2, .int .i64 x3, .int .i64 x4] 3).run Try.prog w = .ok (.int .i64 x3) w ∧
      (part 3 #[.int .i64 x0, .int .i64 x1, .int .i64 x2, .int .i64 x3, .int .i64 x4] 4).run Try.prog w = .ok (.int .i64 x4) w := by
    intro x0 x1 x2 x3 x4
    simp [part, isAgg, run_underlying Try.underlying3]
  obtain ⟨a0', a1', a2', a3', a4'⟩ := px a0 a1 a2 a3 a4
  obtain ⟨b0', b1', b2', b3', b4'⟩ := px b0 b1 b2 b3 b4
  rw [Op.equalIn]
  simp only [Sem.run_bind, run_underlying Try.underlying148, Result.andThen_ok, size_int, Std.Legacy.Range.forIn_eq_forIn_range', Std.Legacy.Range.size, Nat.sub_zero, Nat.add_sub_cancel, Nat.div_one, Nat.mul_one]
  unfold eqRegs
  cases h0 : (a0 == b0) <;> cases h1 : (a1 == b1) <;> cases h2 : (a2 == b2) <;> cases h3 : (a3 == b3) <;> cases h4 : (a4 == b4)
  all_goals
    simp only [List.range', List.forIn_cons, List.forIn_nil, Sem.run_bind, a0', a1', a2', a3', a4', b0', b1', b2', b3', b4', pe, Result.andThen_ok, Nat.zero_add, Nat.reduceAdd, h0, h1, h2, h3, h4, Bool.not_false, Bool.not_true, if_true, Bool.false_eq_true, if_false, Sem.run_pure, Bool.and_true, Bool.and_false]

theorem run_eq_thread (id st op arg pc til : Int) (per can : Bool) (r0 r1 r2 r3 r4 code res : Int) (id' st' op' arg' pc' til' : Int) (per' can' : Bool) (s0 s1 s2 s3 s4 code' res' : Int) (w : World) :
    (Op.equalIn 10000 150 (.agg #[.int .i64 id, .int .i64 st, .int .i64 op, .int .i64 arg, .int .i64 pc, .int .i64 til, .bool per, .bool can, .int .i64 r0, .int .i64 r1, .int .i64 r2, .int .i64 r3, .int .i64 r4, .int .i64 code, .int .i64 res]) (.agg #[.int .i64 id', .int .i64 st', .int .i64 op', .int .i64 arg', .int .i64 pc', .int .i64 til', .bool per', .bool can', .int .i64 s0, .int .i64 s1, .int .i64 s2, .int .i64 s3, .int .i64 s4, .int .i64 code', .int .i64 res'])).run Try.prog w = .ok (eqTh id st op arg pc til per can r0 r1 r2 r3 r4 code res id' st' op' arg' pc' til' per' can' s0 s1 s2 s3 s4 code' res') w := by
  have hr := fun wx => run_eq_regs 9997 r0 r1 r2 r3 r4 s0 s1 s2 s3 s4 wx
  have hq : Try.prog.stoodInHeld 150 = false := by kernel_rfl
  rw [show (10000 : Nat) = 9999 + 1 from rfl, run_equalIn_struct w 9999 150 _ _ (by kernel_rfl) hq]
  simp [go_sem, Op.eqFields, Program.fieldsOf, Try.underlying150, part, isAgg, run_underlying Try.underlying3, run_underlying Try.underlying4, run_underlying Try.underlying148, hr]
  unfold eqTh
  generalize eqRegs r0 r1 r2 r3 r4 s0 s1 s2 s3 s4 = q
  clear hr hq
  refine if h0 : id = id' then ?_ else (by simp [h0])
  refine if h1 : st = st' then ?_ else (by simp [h1])
  refine if h2 : op = op' then ?_ else (by simp [h2])
  refine if h3 : arg = arg' then ?_ else (by simp [h3])
  refine if h4 : pc = pc' then ?_ else (by simp [h4])
  refine if h5 : til = til' then ?_ else (by simp [h5])
  refine if h6 : per = per' then ?_ else (by simp [h6])
  refine if h7 : can = can' then ?_ else (by simp [h7])
  cases q
  · simp
  refine if h8 : code = code' then ?_ else (by simp [h8])
  refine if h9 : res = res' then ?_ else (by simp [h9])
  simp [h0, h1, h2, h3, h4, h5, h6, h7, h8, h9]

theorem run_eql_thread (id st op arg pc til : Int) (per can : Bool) (r0 r1 r2 r3 r4 code res : Int) (id' st' op' arg' pc' til' : Int) (per' can' : Bool) (s0 s1 s2 s3 s4 code' res' : Int) (w : World) :
    (binOp .eql 150 (.agg #[.int .i64 id, .int .i64 st, .int .i64 op, .int .i64 arg, .int .i64 pc, .int .i64 til, .bool per, .bool can, .int .i64 r0, .int .i64 r1, .int .i64 r2, .int .i64 r3, .int .i64 r4, .int .i64 code, .int .i64 res]) (.agg #[.int .i64 id', .int .i64 st', .int .i64 op', .int .i64 arg', .int .i64 pc', .int .i64 til', .bool per', .bool can', .int .i64 s0, .int .i64 s1, .int .i64 s2, .int .i64 s3, .int .i64 s4, .int .i64 code', .int .i64 res'])).run Try.prog w = .ok (.bool (eqTh id st op arg pc til per can r0 r1 r2 r3 r4 code res id' st' op' arg' pc' til' per' can' s0 s1 s2 s3 s4 code' res')) w := by
  rw [run_eql_struct, run_eq_thread]; rfl
theorem run_neq_thread (id st op arg pc til : Int) (per can : Bool) (r0 r1 r2 r3 r4 code res : Int) (id' st' op' arg' pc' til' : Int) (per' can' : Bool) (s0 s1 s2 s3 s4 code' res' : Int) (w : World) :
    (binOp .neq 150 (.agg #[.int .i64 id, .int .i64 st, .int .i64 op, .int .i64 arg, .int .i64 pc, .int .i64 til, .bool per, .bool can, .int .i64 r0, .int .i64 r1, .int .i64 r2, .int .i64 r3, .int .i64 r4, .int .i64 code, .int .i64 res]) (.agg #[.int .i64 id', .int .i64 st', .int .i64 op', .int .i64 arg', .int .i64 pc', .int .i64 til', .bool per', .bool can', .int .i64 s0, .int .i64 s1, .int .i64 s2, .int .i64 s3, .int .i64 s4, .int .i64 code', .int .i64 res'])).run Try.prog w = .ok (.bool (!eqTh id st op arg pc til per can r0 r1 r2 r3 r4 code res id' st' op' arg' pc' til' per' can' s0 s1 s2 s3 s4 code' res')) w := by
  rw [run_neq_struct, run_eq_thread]; rfl
theorem eqTh_refl (id st op arg pc til : Int) (per can : Bool) (r0 r1 r2 r3 r4 code res : Int) : eqTh id st op arg pc til per can r0 r1 r2 r3 r4 code res id st op arg pc til per can r0 r1 r2 r3 r4 code res = true := by simp [eqTh, eqRegs]
theorem eqTh_bare (id st op arg pc til : Int) (per can : Bool) (r0 r1 r2 r3 r4 code res : Int) : eqTh id st op arg pc til per can r0 r1 r2 r3 r4 code res id 0 0 0 0 0 false false 0 0 0 0 0 code res = (st == 0 && bareB op arg pc til per can r0 r1 r2 r3 r4) := by
  rw [Bool.eq_iff_iff]
  simp [eqTh, eqRegs, bareB, zeroB]
  constructor
  · intro h; simp_all
  · intro h; simp_all
end Go.Proofs.Ythianfhfamkcmaa
