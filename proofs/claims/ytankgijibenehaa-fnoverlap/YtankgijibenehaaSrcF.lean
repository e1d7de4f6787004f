/-
  The source of choices with so many draws left: next, chance, call (the draws of the laws).
-/
import Derived.Test.YtankgijibenehaaNext
import Derived.Test.YtankgijibenehaaThB
namespace Go.Proofs.Ytankgijibenehaa
open Go.RowKit

/-- The source has k draws left, at least. -/
def SrcF (w : World) (g B : Nat) (A : Option Addr) (n c k : Nat) : Prop := Src w g B A n c (1000000 - (k : Int))
theorem SrcF.mono {w : World} {g B : Nat} {A : Option Addr} {n c k k' : Nat} (h : SrcF w g B A n c k) (hk : k' ≤ k) : SrcF w g B A n c k' := Src.mono h (by omega)
theorem SrcF.lt {w : World} {g B : Nat} {A : Option Addr} {n c k : Nat} (h : SrcF w g B A n c k) : g < w.heap.size := Src.lt h
theorem SrcF.heap {w w' : World} {g B : Nat} {A : Option Addr} {n c k : Nat} (h : SrcF w g B A n c k) (hh : w'.heap = w.heap) : SrcF w' g B A n c k := Src.heap h hh
theorem SrcF.below {w w' : World} {g B : Nat} {A : Option Addr} {n c k : Nat} (h : SrcF w g B A n c k) (hb : Below w.heap.size w w') : SrcF w' g B A n c k := Src.below h hb
theorem SrcF.grown {w w' : World} {g B : Nat} {A : Option Addr} {n c k : Nat} {row : Option Nat} (h : SrcF w g B A n c k) (hg : w.grownBy w' row) (hr : ∀ j, row = some j → B ≤ j ∧ j ≠ g) : SrcF w' g B A n c k := Src.grown h hg hr
theorem SrcF.set {w : World} {g B : Nat} {A : Option Addr} {n c k : Nat} (h : SrcF w g B A n c k) {b : Nat} (hb : g < b) (i : Nat) (v : Value) : SrcF (w.setCell ⟨b, i, none⟩ v) g B A n c k :=
  h.grown (grown_setCell w b i v) (fun j hj => by have := Src.high h; simp only [Option.some.injEq] at hj; omega)

/-- What a draw of a number leaves. -/
def NextPost (q : Int) (w : World) (g B : Nat) (A : Option Addr) (n c k : Nat) (e : Ending) (w' : World) : Prop := ∃ r : Int, 0 ≤ r ∧ r < q ∧ e = .returned (.int .i64 r) ∧ SrcF w' g B A n c k ∧ w.grownBy w' (some g)
def ChancePost (w : World) (g B : Nat) (A : Option Addr) (n c k : Nat) (e : Ending) (w' : World) : Prop := ∃ b : Bool, e = .returned (.bool b) ∧ SrcF w' g B A n c k ∧ w.grownBy w' (some g)

theorem nextF (g B : Nat) (A : Option Addr) (n c k : Nat) (q : Int) (w : World) (hn : n ≤ maxLen) (hq1 : 1 < q) (hq2 : q ≤ 256) (hS : SrcF w g B A n c (k + 1)) :
    Calls Try.prog 99 #[.pointer (some ⟨g, 0, none⟩), .int .i64 q] w (NextPost q w g B A n c k) :=
  (next_small g B A n c _ q w (by omega) hn hq1 hq2 hS).mono fun e w' ⟨r, h0, h1, he, hs, hg⟩ => ⟨r, h0, h1, he, Src.mono hs (by omega), hg⟩

/-- What a drawn call is. -/
def CallPost (w : World) (g B : Nat) (A : Option Addr) (n c k : Nat) (e : Ending) (w' : World) : Prop :=
  ∃ o a u : Int, opB o = true ∧ argB o a = true ∧ tilB o u = true ∧ e = .returned (.tuple #[.int .i64 o, .int .i64 a, .int .i64 u]) ∧ SrcF w' g B A n c k ∧ w.grownBy w' (some g)

theorem six0 {n : Int} (h0 : 0 ≤ n) (h : n < 6) : n = 0 ∨ n = 1 ∨ n = 2 ∨ n = 3 ∨ n = 4 ∨ n = 5 := by omega
theorem argB_brings {o a : Int} (h : bringsB o = true) (h0 : 0 ≤ a) (h1 : a < 90) : argB o a = true := by unfold argB; rw [if_pos h]; exact inB_iff.2 (by omega)
theorem tilB_waits {o u : Int} (h : waitB o = true) (h0 : 0 ≤ u) (h1 : u < 30) : tilB o (1 + u) = true := by unfold tilB; rw [if_pos h]; exact inB_iff.2 (by omega)
theorem tilB_zero (o : Int) : tilB o 0 = true := by unfold tilB; split <;> decide

end Go.Proofs.Ytankgijibenehaa
