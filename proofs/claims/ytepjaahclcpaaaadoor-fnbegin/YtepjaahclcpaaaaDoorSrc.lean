/-
  The source of choices: byte, next (the draws of the laws).
-/
import Derived.Test.YtepjaahclcpaaaaDoorMem
import Derived.Deep.RegionWith
import Derived.StillTailTactics
import Derived.BigRegion
namespace Go.Proofs.YtepjaahclcpaaaaDoor
open Go.RowKit

/-- A slice of bytes at A, n of them. -/
def RdB (w : World) (A : Option Addr) (n : Nat) : Prop :=
  ∀ i, i < n → ∃ b o u, A = some ⟨b, o, none⟩ ∧ w.cell? ⟨b, o + i, none⟩ = some (.int .u8 u) ∧ 0 ≤ u ∧ u ≤ 255
theorem RdB.below {w w' : World} {A : Option Addr} {n : Nat} (h : RdB w A n) (hb : Below w.heap.size w w') : RdB w' A n := by
  intro i hi
  obtain ⟨b, o, u, hA, hc, hu⟩ := h i hi
  exact ⟨b, o, u, hA, by rw [hb.cell (p := ⟨b, o + i, none⟩) (block_lt_of_cell hc)]; exact hc, hu⟩

/-- The source at block g over the bytes at A: how many bytes were asked for is at most m. B: the bytes lie below block B, the source from B on. -/
structure Src (w : World) (g B : Nat) (A : Option Addr) (n c : Nat) (m : Int) : Prop where
  code : w.cell? ⟨g, 0, none⟩ = some (.slice A n c)
  rest : ∃ p s : Int, w.cell? ⟨g, 1, none⟩ = some (.int .i64 p) ∧ w.cell? ⟨g, 2, none⟩ = some (.int .i64 s) ∧ 0 ≤ p ∧ p ≤ m ∧ 0 ≤ s ∧ s < 2147483648
  froz : ∀ i, w.frozen? ⟨g, i, none⟩ = false
  bytes : RdB w A n
  low : ∀ a, A = some a → 0 < n → a.block < B
  high : B ≤ g

theorem Src.mono {w : World} {g B : Nat} {A : Option Addr} {n c : Nat} {m m' : Int} (h : Src w g B A n c m) (hm : m ≤ m') : Src w g B A n c m' := by
  obtain ⟨p, s, h1, h2, h3, h4, h5, h6⟩ := h.rest
  exact ⟨h.code, ⟨p, s, h1, h2, h3, by omega, h5, h6⟩, h.froz, h.bytes, h.low, h.high⟩
theorem Src.lt {w : World} {g B : Nat} {A : Option Addr} {n c : Nat} {m : Int} (h : Src w g B A n c m) : g < w.heap.size := block_lt_of_cell h.code
/-- It stays where its block and all below B stay. -/
theorem Src.kept {w w' : World} {g B : Nat} {A : Option Addr} {n c : Nat} {m : Int} (h : Src w g B A n c m) (hg : w'.heap[g]? = w.heap[g]?) (hb : ∀ k, k < B → w'.heap[k]? = w.heap[k]?) : Src w' g B A n c m := by
  have hc : ∀ i, w'.cell? ⟨g, i, none⟩ = w.cell? ⟨g, i, none⟩ := fun i => World.cell?_of_block (a := ⟨g, i, none⟩) hg
  have hf : ∀ i, w'.frozen? ⟨g, i, none⟩ = w.frozen? ⟨g, i, none⟩ := fun i => World.frozen?_of_block (a := ⟨g, i, none⟩) hg
  refine ⟨by rw [hc]; exact h.code, ?_, fun i => by rw [hf]; exact h.froz i, ?_, h.low, h.high⟩
  · obtain ⟨p, s, h1, h2, h3⟩ := h.rest
    exact ⟨p, s, by rw [hc]; exact h1, by rw [hc]; exact h2, h3⟩
  · intro i hi
    obtain ⟨b, o, u, hA, hcell, hu⟩ := h.bytes i hi
    have hlt := h.low _ hA (by omega)
    exact ⟨b, o, u, hA, (World.cell?_of_block (a := ⟨b, o + i, none⟩) (hb b hlt)).trans hcell, hu⟩
theorem Src.below {w w' : World} {g B : Nat} {A : Option Addr} {n c : Nat} {m : Int} (h : Src w g B A n c m) (hb : Below w.heap.size w w') : Src w' g B A n c m :=
  h.kept (hb.block g h.lt) (fun k hk => hb.block k (by have := h.high; have := h.lt; omega))
theorem Src.grown {w w' : World} {g B : Nat} {A : Option Addr} {n c : Nat} {m : Int} {row : Option Nat} (h : Src w g B A n c m) (hg : w.grownBy w' row) (hr : ∀ k, row = some k → B ≤ k ∧ k ≠ g) : Src w' g B A n c m :=
  h.kept (hg.block g h.lt (fun e => (hr g e.symm).2 rfl)) (fun k hk => hg.block k (by have := h.high; have := h.lt; omega) (fun e => by have := (hr k e.symm).1; omega))

theorem Src.heap {w w' : World} {g B : Nat} {A : Option Addr} {n c : Nat} {m : Int} (h : Src w g B A n c m) (hh : w'.heap = w.heap) : Src w' g B A n c m := h.kept (by rw [hh]) (fun k _ => by rw [hh])
/-- One number of the source is stored anew. -/
theorem Src.put1 {w : World} {g B : Nat} {A : Option Addr} {n c : Nat} {m m' p : Int} (h : Src w g B A n c m) (hp : 0 ≤ p) (hpm : p ≤ m') : Src (w.setCell ⟨g, 1, none⟩ (.int .i64 p)) g B A n c m' := by
  obtain ⟨p0, s0, h1, h2, _, _, h5, h6⟩ := h.rest
  refine ⟨(World.cell?_setCell_other _ _ _ _ (by simp)).trans h.code, ⟨p, s0, World.cell?_setCell_same _ _ _ h1, (World.cell?_setCell_other _ _ _ _ (by simp)).trans h2, hp, hpm, h5, h6⟩, fun i => ?_, ?_, h.low, h.high⟩
  · rw [World.frozen?_setCell]; exact h.froz i
  · intro i hi
    obtain ⟨b, o, u, hA, hcell, hu⟩ := h.bytes i hi
    have hlt := h.low _ hA (by omega)
    have hh := h.high
    exact ⟨b, o, u, hA, (World.cell?_setCell_other _ _ _ _ (by simp; intro e; dsimp only at hlt; omega)).trans hcell, hu⟩
theorem Src.put2 {w : World} {g B : Nat} {A : Option Addr} {n c : Nat} {m s : Int} (h : Src w g B A n c m) (hs : 0 ≤ s) (hsm : s < 2147483648) : Src (w.setCell ⟨g, 2, none⟩ (.int .i64 s)) g B A n c m := by
  obtain ⟨p0, s0, h1, h2, h3, h4, _, _⟩ := h.rest
  refine ⟨(World.cell?_setCell_other _ _ _ _ (by simp)).trans h.code, ⟨p0, s, (World.cell?_setCell_other _ _ _ _ (by simp)).trans h1, World.cell?_setCell_same _ _ _ h2, h3, h4, hs, hsm⟩, fun i => ?_, ?_, h.low, h.high⟩
  · rw [World.frozen?_setCell]; exact h.froz i
  · intro i hi
    obtain ⟨b, o, u, hA, hcell, hu⟩ := h.bytes i hi
    have hlt := h.low _ hA (by omega)
    have hh := h.high
    exact ⟨b, o, u, hA, (World.cell?_setCell_other _ _ _ _ (by simp; intro e; dsimp only at hlt; omega)).trans hcell, hu⟩
theorem grown_setCell (w : World) (g i : Nat) (v : Value) : w.grownBy (w.setCell ⟨g, i, none⟩ v) (some g) :=
  ⟨rfl, rfl, rfl, by simp [World.setCell], fun k _ hk => Below.heap_setCell w ⟨g, i, none⟩ v k (fun e => hk (by rw [e]))⟩

set_option maxHeartbeats 2000000 in
theorem byte_any (g B : Nat) (A : Option Addr) (n c : Nat) (m : Int) (w : World) (hm : m ≤ 1000000000000) (hn : n ≤ maxLen) (hS : Src w g B A n c m) :
    Calls Tryd.prog 38 #[.pointer (some ⟨g, 0, none⟩)] w fun e w' => ∃ r : Int, 0 ≤ r ∧ r ≤ 255 ∧ e = .returned (.int .i64 r) ∧ Src w' g B A n c (m + 1) ∧ w.grownBy w' (some g) := by
  obtain ⟨p, s, hp, hs, hp0, hpm, hs0, hsm⟩ := hS.rest
  have hco := hS.code
  have hf1 := hS.froz 1
  have hf2 := hS.froz 2
  have HS := Lib.hid hS; clear hS
  unfold maxLen at hn
  by_cases hle : p + 1 ≤ n
  · obtain ⟨k, rfl⟩ := Int.eq_ofNat_of_zero_le hp0
    obtain ⟨b, o, u, rfl, hcell, hu0, hu1⟩ := HS.out.bytes k (by omega)
    have hbg : b ≠ g := by have h1 := HS.out.low _ rfl (by omega); have h2 := HS.out.high; dsimp only at h1; omega
    have hst := HS.out
    have E : Hid (∀ nq, ∃ W1, ((w.setCell ⟨g, 1, none⟩ (.int .i64 ((k : Int) + 1))).drewN nq) = W1 ∧ W1.cell? ⟨g, 0, none⟩ = some (.slice (some ⟨b, o, none⟩) n c) ∧ W1.cell? ⟨g, 1, none⟩ = some (.int .i64 ((k : Int) + 1)) ∧ W1.cell? ⟨g, 2, none⟩ = some (.int .i64 s) ∧ W1.cell? ⟨b, o + k, none⟩ = some (.int .u8 u) ∧ W1.frozen? ⟨g, 2, none⟩ = false) := fun nq =>
      ⟨_, rfl, (World.cell?_setCell_other _ _ _ _ (by simp)).trans hco, World.cell?_setCell_same _ _ _ hp, (World.cell?_setCell_other _ _ _ _ (by simp)).trans hs, (World.cell?_setCell_other _ _ _ _ (by first | (simp; done) | simp [hbg])).trans hcell, (World.frozen?_setCell _ _ _ _).trans hf2⟩
    clear hst
    go_enter Tryd.func38, Tryd.ntmps38
    go_wp2
    go_quiet (fail)
    go_wp2
    obtain ⟨W1, hW1, c0, c1, c2, c3, f2⟩ := E.out nq
    rw [hW1]
    have HW1 := Lib.hid hW1
    clear hW1 hco hp hs hcell hf1 hf2 E
    have q1 : IntKind.i64.wrap (s * 31) = s * 31 := IntWalk.i64_in _ (by omega)
    have q2 : IntKind.i64.wrap (s * 31 + u) = s * 31 + u := IntWalk.i64_in _ (by omega)
    have q3 : IntKind.i64.wrap (s * 31 + u + 7) = s * 31 + u + 7 := IntWalk.i64_in _ (by omega)
    have q4 : IntKind.i64.wrap ((k : Int) + 1 - 1) = (k : Int) := by rw [IntWalk.i64_in _ (by omega)]; omega
    go_region
    go_wp2
    have hgb : ¬ g = b := Ne.symm hbg
    go_region
    go_wp2
    go_ret
    refine ⟨u, hu0, hu1, rfl, ?_, ?_⟩
    · have h1 := (HS.out.put1 (m' := m + 1) (p := (k : Int) + 1) (by omega) (by omega)).put2 (s := (s * 31 + u + 7) % 2147483648) (by omega) (by omega)
      exact h1.heap (by rw [← HW1.out]; rfl)
    · have h1 := grown_trans (grown_setCell w g 1 (.int .i64 ((k : Int) + 1))) (grown_setCell _ g 2 (.int .i64 ((s * 31 + u + 7) % 2147483648)))
      rw [← HW1.out]
      exact ⟨h1.os, h1.tape, h1.output, h1.size, h1.block⟩
  · have hle' : decide (p + 1 ≤ (n : Int)) = false := decide_eq_false hle
    have E : Hid (∀ nq, ∃ W1, ((w.setCell ⟨g, 1, none⟩ (.int .i64 (p + 1))).drewN nq) = W1 ∧ W1.cell? ⟨g, 1, none⟩ = some (.int .i64 (p + 1)) ∧ W1.cell? ⟨g, 2, none⟩ = some (.int .i64 s) ∧ W1.frozen? ⟨g, 2, none⟩ = false) := fun nq =>
      ⟨_, rfl, World.cell?_setCell_same _ _ _ hp, (World.cell?_setCell_other _ _ _ _ (by simp)).trans hs, (World.frozen?_setCell _ _ _ _).trans hf2⟩
    have q0 : IntKind.i64.wrap (p + 1) = p + 1 := IntWalk.i64_in _ (by omega)
    by_cases h3 : 3000 < p + 1
    · go_enter Tryd.func38, Tryd.ntmps38
      go_wp2
      go_quiet (fail)
      obtain ⟨W1, hW1, c1, c2, f2⟩ := E.out nq
      rw [hW1]
      have HW1 := Lib.hid hW1
      clear hW1 hco hp hs hf1 hf2 E
      go_wp2
      go_ret
      refine ⟨0, by omega, by omega, rfl, ?_, ?_⟩
      · have h1 := HS.out.put1 (m' := m + 1) (p := p + 1) (by omega) (by omega)
        exact h1.heap (by rw [← HW1.out]; rfl)
      · have h1 := grown_setCell w g 1 (.int .i64 (p + 1))
        rw [← HW1.out]
        exact ⟨h1.os, h1.tape, h1.output, h1.size, h1.block⟩
    · go_enter Tryd.func38, Tryd.ntmps38
      go_wp2
      go_quiet (fail)
      obtain ⟨W1, hW1, c1, c2, f2⟩ := E.out nq
      rw [hW1]
      have HW1 := Lib.hid hW1
      clear hW1 hco hp hs hf1 hf2 E
      have q2 : 0 ≤ (s * 1103515245 + 12345) % 2147483648 := by omega
      have q3 : (s * 1103515245 + 12345) % 2147483648 < 2147483648 := by omega
      go_wp2
      go_ret
      refine ⟨_, ?_, ?_, rfl, ?_, ?_⟩
      · omega
      · omega
      · have h1 := (HS.out.put1 (m' := m + 1) (p := p + 1) (by omega) (by omega)).put2 (s := (s * 1103515245 + 12345) % 2147483648) (by omega) (by omega)
        exact h1.heap (by rw [← HW1.out]; rfl)
      · have h1 := grown_trans (grown_setCell w g 1 (.int .i64 (p + 1))) (grown_setCell _ g 2 (.int .i64 ((s * 1103515245 + 12345) % 2147483648)))
        rw [← HW1.out]
        exact ⟨h1.os, h1.tape, h1.output, h1.size, h1.block⟩
end Go.Proofs.YtepjaahclcpaaaaDoor
