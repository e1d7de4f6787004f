/-
  Words for memory that the contracts use: a slice of integers that is read (Rd), rows of the call's own, what stays.
  Two closed facts on the program.
  The source of choices: byte, next (the draws of the laws).
  How the arguments of the laws are opened: bytes.
  The source of choices: next, l00Source.
  Words that arenas and threads share: what a word is; what stays.
  The program's wordOK and wordsOK.
  The model's l01In.
  Threads (chapter 3): what a right thread is, and contracts of the small functions, the program's and the model's.
  The model's l01Word.
  Contracts of the laws' helpers over lists of integers and arenas.
  Contracts of the laws' helpers that compare, mark and hold lists of integers and arenas.
  Contracts of the arena's functions that read: the program's and the model's (chapter 2).
  Contracts: the model's ArenaOK, the faults of a cell, LoadCell of both (chapter 2).
  Contracts of the program's list of cells: grown, with, joined; list, copyArena (chapter 2).
  Rows of structs: a slice of structs read as a list, and one of the call's own.
  Contracts: LoadCell, the program's and the model's (chapter 2).
-/
import Derived.Test.YthianfhfamkcmaaRows
import Derived.WalkKit
import Derived.WalkSpells
import Derived.Lib.Hide
import Derived.Deep.QuietTactic
import Derived.BigQuiet
import Derived.Deep.RegionHeld3
import Derived.Laws.CopyOwn
import Derived.ProofKit
import Derived.OpenShut
import Derived.ShutString
import Derived.ChangeOld
import Derived.Lib.SmallJoins
import Derived.Deep.RegionWith
import Derived.StillTailTactics
import Derived.BigRegion
import Derived.Laws.StructEq
import Derived.Deep.MidRow
import Derived.Laws.OwnMore
namespace Go.Proofs.Ythianfhfamkcmaa
open Go.RowKit

theorem ret_bool {a b : Bool} (h : a = b) : Ending.returned (.bool a) = .returned (.bool b) := by rw [h]
theorem ret_int {k : IntKind} {a b : Int} (h : a = b) : Ending.returned (.int k a) = .returned (.int k b) := by rw [h]

/-- The integers of a list as values of the kind int. -/
def ints (zs : List Int) : List Value := zs.map (Value.int .i64)
theorem length_ints (zs : List Int) : (ints zs).length = zs.length := by simp [ints]
theorem ints_get (zs : List Int) (i : Nat) (h : i < zs.length) : (ints zs)[i]? = some (.int .i64 (zs.getD i 0)) := by
  simp [ints, List.getD, h]
theorem ints_one (zs : List Int) : ∀ u ∈ ints zs, u.oneCell' = true := ints_oneCell _ _

/-- A slice at A reads as the list zs. -/
def Rd (w : World) (A : Option Addr) (zs : List Int) : Prop :=
  ∀ i, i < zs.length → ∃ b o, A = some ⟨b, o, none⟩ ∧ w.cell? ⟨b, o + i, none⟩ = some (.int .i64 (zs.getD i 0))

theorem Rd.nil (w : World) (A : Option Addr) : Rd w A [] := fun _ h => absurd h (by simp)

theorem Rd.keep {w w' : World} {A : Option Addr} {zs : List Int} (h : Rd w A zs) (_hk : ∀ a v, A = some a → w.cell? a = some v → True) (hc : ∀ b o v, w.cell? ⟨b, o, none⟩ = some v → (∃ a, A = some a ∧ a.block = b) → w'.cell? ⟨b, o, none⟩ = some v) : Rd w' A zs := by
  intro i hi
  obtain ⟨b, o, hA, hcell⟩ := h i hi
  exact ⟨b, o, hA, hc b (o + i) _ hcell ⟨_, hA, rfl⟩⟩

theorem Rd.below {w w' : World} {A : Option Addr} {zs : List Int} (h : Rd w A zs) (hb : Below w.heap.size w w') : Rd w' A zs := by
  intro i hi
  obtain ⟨b, o, hA, hcell⟩ := h i hi
  exact ⟨b, o, hA, by rw [hb.cell (p := ⟨b, o + i, none⟩) (block_lt_of_cell hcell)]; exact hcell⟩

theorem Rd.drew {w : World} {A : Option Addr} {zs : List Int} (h : Rd w A zs) : Rd w.drew A zs := h
theorem Rd.grown {w w' : World} {A : Option Addr} {zs : List Int} {row : Option Nat} (h : Rd w A zs) (hg : w.grownBy w' row) (hne : ∀ a, A = some a → some a.block ≠ row) : Rd w' A zs := by
  intro i hi
  obtain ⟨b, o, hA, hcell⟩ := h i hi
  exact ⟨b, o, hA, hg.cell hcell (fun e => hne _ hA e)⟩

theorem Rd.of_own {w : World} {base n c : Nat} {e : TypeId} {A : Option Addr} {zs : List Int} (h : w.ownsRow base e 1 (.slice A n c) n (ints zs)) : Rd w A zs := by
  intro i hi
  have hn : zs.length = n := by have := h.1; simpa [length_ints] using this
  rcases h.2 with ⟨hv, h0⟩ | ⟨g, cap, cur, hv, hb, hh, _⟩
  · omega
  · simp only [Value.slice.injEq] at hv
    obtain ⟨rfl, _, rfl⟩ := hv
    refine ⟨g, 0, rfl, ?_⟩
    rw [Nat.zero_add, World.ownsRow.cellAt h i (by omega)]
    exact ints_get zs i hi

theorem own_len {w : World} {base n : Nat} {e : TypeId} {v : Value} {zs : List Int} (h : w.ownsRow base e 1 v n (ints zs)) : n = zs.length := by
  have := h.1; simp [length_ints] at this; omega

/-- What is owned stays owned where nothing old turns. -/
theorem own_below {w w' : World} {base size n : Nat} {e : TypeId} {v : Value} {xs : List Value} (h : w.ownsRow base e size v n xs) (hb : Below w.heap.size w w') : w'.ownsRow base e size v n xs := by
  refine ⟨h.1, ?_⟩
  rcases h.2 with h2 | ⟨g, cap, cur, hv, hg, hh, r⟩
  · exact .inl h2
  · refine .inr ⟨g, cap, cur, hv, hg, ?_, r⟩
    rw [hb.block g ?_]; exact hh
    rcases Nat.lt_or_ge g w.heap.size with hlt | hge
    · exact hlt
    · rw [Array.getElem?_eq_none hge] at hh; cases hh

theorem own_base {w : World} {base base' size n : Nat} {e : TypeId} {v : Value} {xs : List Value} (h : w.ownsRow base e size v n xs) (hb : base' ≤ base) : w.ownsRow base' e size v n xs := by
  refine ⟨h.1, ?_⟩
  rcases h.2 with h2 | ⟨g, cap, cur, hv, hg, r⟩
  · exact .inl h2
  · exact .inr ⟨g, cap, cur, hv, Nat.le_trans hb hg, r⟩

theorem below_grown {w w' : World} (h : w.grownBy w' none) : Below w.heap.size w w' := (Below.refl _ _).grown h (Nat.le_refl _) (by intro k hk; cases hk)
theorem grown_below {w w' : World} (row : Option Nat) (h : Below w.heap.size w w') : w.grownBy w' row := ⟨h.os, h.tape, h.output, h.size, fun k hk _ => h.block k hk⟩
theorem grown_trans {a b c : World} {row : Option Nat} (h : a.grownBy b row) (k : b.grownBy c row) : a.grownBy c row :=
  ⟨k.os.trans h.os, k.tape.trans h.tape, k.output.trans h.output, Nat.le_trans h.size k.size, fun i hi hr => (k.block i (Nat.lt_of_lt_of_le hi h.size) hr).trans (h.block i hi hr)⟩
theorem grown_drew {a b : World} {row : Option Nat} (h : a.grownBy b row) : a.grownBy b.drew row := ⟨h.os, h.tape, h.output, h.size, h.block⟩
theorem below_trans {a b c : World} (h : Below a.heap.size a b) (k : Below b.heap.size b c) : Below a.heap.size a c := h.trans (k.mono h.size)
theorem below_alloc (w : World) (o : Obj) : Below w.heap.size w (w.alloc o) := (Below.refl _ _).alloc (Nat.le_refl _) _
theorem size_alloc (w : World) (o : Obj) : (w.alloc o).heap.size = w.heap.size + 1 := World.size_alloc ..
theorem bcell {W w1 : World} (hb : Below W.heap.size W w1) : (∀ b o, b < W.heap.size → w1.cell? ⟨b, o, none⟩ = W.cell? ⟨b, o, none⟩) ∧ (∀ b o, b < W.heap.size → w1.frozen? ⟨b, o, none⟩ = W.frozen? ⟨b, o, none⟩) :=
  ⟨fun b o h => hb.cell (p := ⟨b, o, none⟩) h, fun b o h => hb.frozen (p := ⟨b, o, none⟩) h⟩
theorem below_drewN {a : World} (n : Nat) : Below a.heap.size a (a.drewN n) := by
  induction n with
  | zero => exact Below.refl _ _
  | succ k ih => exact ⟨ih.os, ih.tape, ih.output, ih.size, ih.block⟩

/-- A row of the call's own that is known whole. -/
theorem own_full {w : World} {base g n : Nat} {e : TypeId} {xs : List Value} (h : w.ownsRow base e 1 (.slice (some ⟨g, 0, none⟩) n n) n xs) : w.heap[g]? = some (.cells xs.toArray e (0, 0)) ∧ base ≤ g := by
  rcases h.2 with ⟨h', _⟩ | ⟨g', cap', cur, h', hb, hg, _, _, hcs, htake⟩
  · simp at h'
  · simp only [Value.slice.injEq, Option.some.injEq, Addr.mk.injEq, and_true, true_and] at h'
    obtain ⟨rfl, rfl⟩ := h'
    refine ⟨?_, hb⟩
    rw [List.take_of_length_le (by rw [Array.length_toList]; omega)] at htake
    rw [hg, ← htake]
theorem own_of_full {w : World} {base g n : Nat} {e : TypeId} {xs : List Value} (h : w.heap[g]? = some (.cells xs.toArray e (0, 0))) (hb : base ≤ g) (hn : xs.length = n) (hm : n ≤ maxLen) : w.ownsRow base e 1 (.slice (some ⟨g, 0, none⟩) n n) n xs :=
  ⟨by omega, .inr ⟨g, n, xs.toArray, rfl, hb, h, Nat.le_refl _, hm, by simp; omega, List.take_of_length_le (by simp; omega)⟩⟩
theorem rd_cells {w : World} {A : Option Addr} {zs : List Int} (h : Rd w A zs) (hp : 0 < zs.length) : ∃ ad, A = some ad ∧ ∀ j v, (ints zs)[j]? = some v → w.cell? (ad.add j) = some v := by
  obtain ⟨b, o, rfl, _⟩ := h 0 hp
  refine ⟨_, rfl, fun j v hv => ?_⟩
  have hj : j < zs.length := by have := (List.getElem?_eq_some_iff.1 hv).1; rwa [length_ints] at this
  obtain ⟨b', o', hA, hc⟩ := h j hj
  simp only [Option.some.injEq, Addr.mk.injEq, and_true] at hA
  obtain ⟨rfl, rfl⟩ := hA
  rw [Addr.add_lit, hc, ← hv, ints_get _ _ hj]

/-- A row of zeros, filled from the front. -/
def fillTo (zs : List Int) (k : Nat) : List Int := zs.take k ++ List.replicate (zs.length - k) 0
theorem fillTo_length (zs : List Int) (k : Nat) : (fillTo zs k).length = zs.length := by simp [fillTo]; omega
theorem fillTo_zero (zs : List Int) : fillTo zs 0 = List.replicate zs.length 0 := by simp [fillTo]
theorem fillTo_all (zs : List Int) (k : Nat) (h : zs.length ≤ k) : fillTo zs k = zs := by
  simp [fillTo, List.take_of_length_le h, Nat.sub_eq_zero_of_le h]
theorem fillTo_get (zs : List Int) (k j : Nat) (h : j < zs.length) : (fillTo zs k)[j]? = some (if j < k then zs.getD j 0 else 0) := by
  unfold fillTo
  by_cases hj : j < k
  · rw [List.getElem?_append_left (by simp; omega), List.getElem?_take, if_pos hj, if_pos hj]
    simp [List.getD, h]
  · rw [List.getElem?_append_right (by simp; omega), List.getElem?_replicate, if_neg hj, if_pos (by simp; omega)]
theorem fillTo_set (zs : List Int) (k : Nat) (h : k < zs.length) : (fillTo zs k).set k (zs.getD k 0) = fillTo zs (k + 1) := by
  apply List.ext_getElem?
  intro j
  by_cases hj : j < zs.length
  · rw [fillTo_get _ _ _ hj, List.getElem?_set, fillTo_length, if_pos h]
    by_cases e : k = j
    · subst e; simp
    · rw [if_neg e, fillTo_get _ _ _ hj]
      by_cases hlt : j < k
      · rw [if_pos hlt, if_pos (by omega)]
      · rw [if_neg hlt, if_neg (by omega)]
  · rw [List.getElem?_eq_none (by simp [fillTo_length]; omega), List.getElem?_eq_none (by rw [fillTo_length]; omega)]
theorem ints_set (zs : List Int) (k : Nat) (n : Int) : (ints zs).set k (.int .i64 n) = ints (zs.set k n) := by simp [ints, List.map_set]
theorem made_zero (n : Nat) : (madeCells #[Value.int .i64 0] n).toList = ints (List.replicate n 0) := by
  rw [toList_madeCells_one]
  simp [ints]
end Go.Proofs.Ythianfhfamkcmaa

namespace Go.Proofs.Ythianfhfamkcmaa
open Go.RowKit

theorem Try.own : ownKnob Try.prog.godebug = none := by kernel_rfl
theorem Try.laidOut : laidOutB Try.prog = true := by kernel_rfl
end Go.Proofs.Ythianfhfamkcmaa

namespace Go.Proofs.Ythianfhfamkcmaa
open Go.RowKit

/-- A slice of bytes at A, n of them. -/
def RdB (w : World) (A : Option Addr) (n : Nat) : Prop :=
  ∀ i, i < n → ∃ b o u, A = some ⟨b, o, none⟩ ∧ w.cell? ⟨b, o + i, none⟩ = some (.int .u8 u) ∧ 0 ≤ u ∧ u ≤ 255
theorem RdB.below {w w' : World} {A : Option Addr} {n : Nat} (h : RdB w A n) (hb : Below w.heap.size w w') : RdB w' A n := by
  intro i hi
  obtain ⟨b, o, u, hA, hc, hu⟩ := h i hi
  exact ⟨b, o, u, hA, by rw [hb.cell (p := ⟨b, o + i, none⟩) (block_lt_of_cell hc)]; exact hc, hu⟩

/-- The source at block g over the bytes at A: how many bytes were asked for is at most m. B: the bytes lie below block B, the source from B on. -/
structure Src (w : World) (g B : Nat) (A : Option Addr) (n c : Nat) (m : Int) : Prop where
  code : w.cell? ⟨g, 0, none⟩ = some (.slice A n c)
  rest : ∃ p s : Int, w.cell? ⟨g, 1, none⟩ = some (.int .i64 p) ∧ w.cell? ⟨g, 2, none⟩ = some (.int .i64 s) ∧ 0 ≤ p ∧ p ≤ m ∧ 0 ≤ s ∧ s < 2147483648
  froz : ∀ i, w.frozen? ⟨g, i, none⟩ = false
  bytes : RdB w A n
  low : ∀ a, A = some a → 0 < n → a.block < B
  high : B ≤ g

theorem Src.mono {w : World} {g B : Nat} {A : Option Addr} {n c : Nat} {m m' : Int} (h : Src w g B A n c m) (hm : m ≤ m') : Src w g B A n c m' := by
  obtain ⟨p, s, h1, h2, h3, h4, h5, h6⟩ := h.rest
  exact ⟨h.code, ⟨p, s, h1, h2, h3, by omega, h5, h6⟩, h.froz, h.bytes, h.low, h.high⟩
theorem Src.lt {w : World} {g B : Nat} {A : Option Addr} {n c : Nat} {m : Int} (h : Src w g B A n c m) : g < w.heap.size := block_lt_of_cell h.code
/-- It stays where its block and all below B stay. -/
theorem Src.kept {w w' : World} {g B : Nat} {A : Option Addr} {n c : Nat} {m : Int} (h : Src w g B A n c m) (hg : w'.heap[g]? = w.heap[g]?) (hb : ∀ k, k < B → w'.heap[k]? = w.heap[k]?) : Src w' g B A n c m := by
  have hc : ∀ i, w'.cell? ⟨g, i, none⟩ = w.cell? ⟨g, i, none⟩ := fun i => World.cell?_of_block (a := ⟨g, i, none⟩) hg
  have hf : ∀ i, w'.frozen? ⟨g, i, none⟩ = w.frozen? ⟨g, i, none⟩ := fun i => World.frozen?_of_block (a := ⟨g, i, none⟩) hg
  refine ⟨by rw [hc]; exact h.code, ?_, fun i => by rw [hf]; exact h.froz i, ?_, h.low, h.high⟩
  · obtain ⟨p, s, h1, h2, h3⟩ := h.rest
    exact ⟨p, s, by rw [hc]; exact h1, by rw [hc]; exact h2, h3⟩
  · intro i hi
    obtain ⟨b, o, u, hA, hcell, hu⟩ := h.bytes i hi
    have hlt := h.low _ hA (by omega)
    exact ⟨b, o, u, hA, (World.cell?_of_block (a := ⟨b, o + i, none⟩) (hb b hlt)).trans hcell, hu⟩
theorem Src.below {w w' : World} {g B : Nat} {A : Option Addr} {n c : Nat} {m : Int} (h : Src w g B A n c m) (hb : Below w.heap.size w w') : Src w' g B A n c m :=
  h.kept (hb.block g h.lt) (fun k hk => hb.block k (by have := h.high; have := h.lt; omega))
theorem Src.grown {w w' : World} {g B : Nat} {A : Option Addr} {n c : Nat} {m : Int} {row : Option Nat} (h : Src w g B A n c m) (hg : w.grownBy w' row) (hr : ∀ k, row = some k → B ≤ k ∧ k ≠ g) : Src w' g B A n c m :=
  h.kept (hg.block g h.lt (fun e => (hr g e.symm).2 rfl)) (fun k hk => hg.block k (by have := h.high; have := h.lt; omega) (fun e => by have := (hr k e.symm).1; omega))

theorem Src.heap {w w' : World} {g B : Nat} {A : Option Addr} {n c : Nat} {m : Int} (h : Src w g B A n c m) (hh : w'.heap = w.heap) : Src w' g B A n c m := h.kept (by rw [hh]) (fun k _ => by rw [hh])
/-- One number of the source is stored anew. -/
theorem Src.put1 {w : World} {g B : Nat} {A : Option Addr} {n c : Nat} {m m' p : Int} (h : Src w g B A n c m) (hp : 0 ≤ p) (hpm : p ≤ m') : Src (w.setCell ⟨g, 1, none⟩ (.int .i64 p)) g B A n c m' := by
  obtain ⟨p0, s0, h1, h2, _, _, h5, h6⟩ := h.rest
  refine ⟨(World.cell?_setCell_other _ _ _ _ (by simp)).trans h.code, ⟨p, s0, World.cell?_setCell_same _ _ _ h1, (World.cell?_setCell_other _ _ _ _ (by simp)).trans h2, hp, hpm, h5, h6⟩, fun i => ?_, ?_, h.low, h.high⟩
  · rw [World.frozen?_setCell]; exact h.froz i
  · intro i hi
    obtain ⟨b, o, u, hA, hcell, hu⟩ := h.bytes i hi
    have hlt := h.low _ hA (by omega)
    have hh := h.high
    exact ⟨b, o, u, hA, (World.cell?_setCell_other _ _ _ _ (by simp; intro e; dsimp only at hlt; omega)).trans hcell, hu⟩
theorem Src.put2 {w : World} {g B : Nat} {A : Option Addr} {n c : Nat} {m s : Int} (h : Src w g B A n c m) (hs : 0 ≤ s) (hsm : s < 2147483648) : Src (w.setCell ⟨g, 2, none⟩ (.int .i64 s)) g B A n c m := by
  obtain ⟨p0, s0, h1, h2, h3, h4, _, _⟩ := h.rest
  refine ⟨(World.cell?_setCell_other _ _ _ _ (by simp)).trans h.code, ⟨p0, s, (World.cell?_setCell_other _ _ _ _ (by simp)).trans h1, World.cell?_setCell_same _ _ _ h2, h3, h4, hs, hsm⟩, fun i => ?_, ?_, h.low, h.high⟩
  · rw [World.frozen?_setCell]; exact h.froz i
  · intro i hi
    obtain ⟨b, o, u, hA, hcell, hu⟩ := h.bytes i hi
    have hlt := h.low _ hA (by omega)
    have hh := h.high
    exact ⟨b, o, u, hA, (World.cell?_setCell_other _ _ _ _ (by simp; intro e; dsimp only at hlt; omega)).trans hcell, hu⟩
theorem grown_setCell (w : World) (g i : Nat) (v : Value) : w.grownBy (w.setCell ⟨g, i, none⟩ v) (some g) :=
  ⟨rfl, rfl, rfl, by simp [World.setCell], fun k _ hk => Below.heap_setCell w ⟨g, i, none⟩ v k (fun e => hk (by rw [e]))⟩

set_option maxHeartbeats 2000000 in
theorem byte_any (g B : Nat) (A : Option Addr) (n c : Nat) (m : Int) (w : World) (hm : m ≤ 1000000000000) (hn : n ≤ maxLen) (hS : Src w g B A n c m) :
    Calls Try.prog 159 #[.pointer (some ⟨g, 0, none⟩)] w fun e w' => ∃ r : Int, 0 ≤ r ∧ r ≤ 255 ∧ e = .returned (.int .i64 r) ∧ Src w' g B A n c (m + 1) ∧ w.grownBy w' (some g) := by
  obtain ⟨p, s, hp, hs, hp0, hpm, hs0, hsm⟩ := hS.rest
  have hco := hS.code
  have hf1 := hS.froz 1
  have hf2 := hS.froz 2
  have HS := Lib.hid hS; clear hS
  unfold maxLen at hn
  by_cases hle : p + 1 ≤ n
  · obtain ⟨k, rfl⟩ := Int.eq_ofNat_of_zero_le hp0
    obtain ⟨b, o, u, rfl, hcell, hu0, hu1⟩ := HS.out.bytes k (by omega)
    have hbg : b ≠ g := by have h1 := HS.out.low _ rfl (by omega); have h2 := HS.out.high; dsimp only at h1; omega
    have hst := HS.out
    have E : Hid (∀ nq, ∃ W1, ((w.setCell ⟨g, 1, none⟩ (.int .i64 ((k : Int) + 1))).drewN nq) = W1 ∧ W1.cell? ⟨g, 0, none⟩ = some (.slice (some ⟨b, o, none⟩) n c) ∧ W1.cell? ⟨g, 1, none⟩ = some (.int .i64 ((k : Int) + 1)) ∧ W1.cell? ⟨g, 2, none⟩ = some (.int .i64 s) ∧ W1.cell? ⟨b, o + k, none⟩ = some (.int .u8 u) ∧ W1.frozen? ⟨g, 2, none⟩ = false) := fun nq =>
      ⟨_, rfl, (World.cell?_setCell_other _ _ _ _ (by simp)).trans hco, World.cell?_setCell_same _ _ _ hp, (World.cell?_setCell_other _ _ _ _ (by simp)).trans hs, (World.cell?_setCell_other _ _ _ _ (by first | (simp; done) | simp [hbg])).trans hcell, (World.frozen?_setCell _ _ _ _).trans hf2⟩
    clear hst
    go_enter Try.func159, Try.ntmps159
    go_wp2
    go_quiet (fail)
    go_wp2
    obtain ⟨W1, hW1, c0, c1, c2, c3, f2⟩ := E.out nq
    rw [hW1]
    have HW1 := Lib.hid hW1
    clear hW1 hco hp hs hcell hf1 hf2 E
    have q1 : IntKind.i64.wrap (s * 31) = s * 31 := IntWalk.i64_in _ (by omega)
    have q2 : IntKind.i64.wrap (s * 31 + u) = s * 31 + u := IntWalk.i64_in _ (by omega)
    have q3 : IntKind.i64.wrap (s * 31 + u + 7) = s * 31 + u + 7 := IntWalk.i64_in _ (by omega)
    have q4 : IntKind.i64.wrap ((k : Int) + 1 - 1) = (k : Int) := by rw [IntWalk.i64_in _ (by omega)]; omega
    go_region
    go_wp2
    have hgb : ¬ g = b := Ne.symm hbg
    go_region
    go_wp2
    go_ret
    refine ⟨u, hu0, hu1, rfl, ?_, ?_⟩
    · have h1 := (HS.out.put1 (m' := m + 1) (p := (k : Int) + 1) (by omega) (by omega)).put2 (s := (s * 31 + u + 7) % 2147483648) (by omega) (by omega)
      exact h1.heap (by rw [← HW1.out]; rfl)
    · have h1 := grown_trans (grown_setCell w g 1 (.int .i64 ((k : Int) + 1))) (grown_setCell _ g 2 (.int .i64 ((s * 31 + u + 7) % 2147483648)))
      rw [← HW1.out]
      exact ⟨h1.os, h1.tape, h1.output, h1.size, h1.block⟩
  · have hle' : decide (p + 1 ≤ (n : Int)) = false := decide_eq_false hle
    have E : Hid (∀ nq, ∃ W1, ((w.setCell ⟨g, 1, none⟩ (.int .i64 (p + 1))).drewN nq) = W1 ∧ W1.cell? ⟨g, 1, none⟩ = some (.int .i64 (p + 1)) ∧ W1.cell? ⟨g, 2, none⟩ = some (.int .i64 s) ∧ W1.frozen? ⟨g, 2, none⟩ = false) := fun nq =>
      ⟨_, rfl, World.cell?_setCell_same _ _ _ hp, (World.cell?_setCell_other _ _ _ _ (by simp)).trans hs, (World.frozen?_setCell _ _ _ _).trans hf2⟩
    have q0 : IntKind.i64.wrap (p + 1) = p + 1 := IntWalk.i64_in _ (by omega)
    by_cases h3 : 3000 < p + 1
    · go_enter Try.func159, Try.ntmps159
      go_wp2
      go_quiet (fail)
      obtain ⟨W1, hW1, c1, c2, f2⟩ := E.out nq
      rw [hW1]
      have HW1 := Lib.hid hW1
      clear hW1 hco hp hs hf1 hf2 E
      go_wp2
      go_ret
      refine ⟨0, by omega, by omega, rfl, ?_, ?_⟩
      · have h1 := HS.out.put1 (m' := m + 1) (p := p + 1) (by omega) (by omega)
        exact h1.heap (by rw [← HW1.out]; rfl)
      · have h1 := grown_setCell w g 1 (.int .i64 (p + 1))
        rw [← HW1.out]
        exact ⟨h1.os, h1.tape, h1.output, h1.size, h1.block⟩
    · go_enter Try.func159, Try.ntmps159
      go_wp2
      go_quiet (fail)
      obtain ⟨W1, hW1, c1, c2, f2⟩ := E.out nq
      rw [hW1]
      have HW1 := Lib.hid hW1
      clear hW1 hco hp hs hf1 hf2 E
      have q2 : 0 ≤ (s * 1103515245 + 12345) % 2147483648 := by omega
      have q3 : (s * 1103515245 + 12345) % 2147483648 < 2147483648 := by omega
      go_wp2
      go_ret
      refine ⟨_, ?_, ?_, rfl, ?_, ?_⟩
      · omega
      · omega
      · have h1 := (HS.out.put1 (m' := m + 1) (p := p + 1) (by omega) (by omega)).put2 (s := (s * 1103515245 + 12345) % 2147483648) (by omega) (by omega)
        exact h1.heap (by rw [← HW1.out]; rfl)
      · have h1 := grown_trans (grown_setCell w g 1 (.int .i64 (p + 1))) (grown_setCell _ g 2 (.int .i64 ((s * 1103515245 + 12345) % 2147483648)))
        rw [← HW1.out]
        exact ⟨h1.os, h1.tape, h1.output, h1.size, h1.block⟩
end Go.Proofs.Ythianfhfamkcmaa

namespace Go.Proofs.Ythianfhfamkcmaa
open Go.ChangeShapes Go.WideShapes Go.ChangeAt Go.RowKit Go.Joins
set_option maxRecDepth 100000

section
variable {H : Type} {enc : TypeId × Value → H} {w : World} {base : Nat} {spare : Nat → Bool} {held : Bool}
theorem u8_range {z : Int} (h : (Lit.int .u8 z).wf = true) : 0 ≤ z ∧ z ≤ 255 := by
  simpa [Lit.wf, IntKind.min, IntKind.max, IntKind.signed, IntKind.bits] using h

/-- Bytes among the arguments. -/
theorem open_bytes {v : Value} {d : DataW H} {p : List MemPlace} {b0 : Nat} (hv : Value.okWide Try.prog w .any b0 43 v)
    (h : DataW.Trod enc Try.prog w base (fun _ => true) held 43 v d p) :
    ∃ (a : Option Addr) (n c : Nat), v = .slice a n c ∧ n ≤ maxLen ∧ RdB w a n := by
  obtain ⟨a, len, cap, rfl⟩ := okWide_slice Try.underlying43 hv
  obtain ⟨fuel, hf0⟩ := h
  have hf : DataW.trod enc Try.prog w base (fun _ => true) held fuel 43 [.slice a len cap] = some (d, p) := by simpa [Value.cells] using hf0
  refine ⟨a, len, cap, rfl, ?_⟩
  rcases open_ints Try.underlying43 Try.underlying5 (by kernel_rfl) hf with ⟨hcs, _⟩ | ⟨y, l, c, zs, hcs, _, hl, hm, hz, _, hcell, hwz⟩
  · simp at hcs
    obtain ⟨rfl, rfl, rfl⟩ := hcs
    exact ⟨by simp, fun i hi => absurd hi (by omega)⟩
  · simp at hcs
    obtain ⟨rfl, rfl, rfl⟩ := hcs
    have hz' : zs.length = cap := by simpa using hz
    refine ⟨by omega, fun i hi => ?_⟩
    have hc := hcell i (by omega)
    obtain ⟨b, off, spot⟩ := y
    have hspot : spot = none := by simpa [Addr.add] using World.cell?_spot (hcell 0 (by omega))
    subst hspot
    rw [Addr.add_lit] at hc
    have hi' : i < zs.length := by omega
    have hr := u8_range (hwz (zs.getD i 0) (by simp only [List.getD, List.getElem?_eq_getElem hi', Option.getD_some]; exact List.getElem_mem _))
    exact ⟨b, off, _, rfl, hc, hr⟩
end
end Go.Proofs.Ythianfhfamkcmaa

namespace Go.Proofs.Ythianfhfamkcmaa
open Go.RowKit

set_option maxHeartbeats 1000000 in
theorem next_small (g B : Nat) (A : Option Addr) (n c : Nat) (m q : Int) (w : World) (hm : m ≤ 1000000000000) (hn : n ≤ maxLen) (hq1 : 1 < q) (hq2 : q ≤ 256) (hS : Src w g B A n c m) :
    Calls Try.prog 122 #[.pointer (some ⟨g, 0, none⟩), .int .i64 q] w fun e w' => ∃ r : Int, 0 ≤ r ∧ r < q ∧ e = .returned (.int .i64 r) ∧ Src w' g B A n c (m + 1) ∧ w.grownBy w' (some g) := by
  have HS := Lib.hid hS; clear hS
  go_enter Try.func122, Try.ntmps122
  go_wp2_with fail
  refine (byte_any g B A n c m _ hm hn HS.out).mono ?_
  rintro e w1 ⟨r, hr0, hr1, rfl, hS1, hg1⟩
  have HS1 := Lib.hid hS1; have HG1 := Lib.hid hg1; clear hS1 hg1
  have hqz : (q == 0) = false := by simp; omega
  go_wp2
  go_ret
  refine ⟨r % q, ?_, ?_, ?_, HS1.out, HG1.out⟩
  · exact Int.emod_nonneg _ (by omega)
  · exact Int.emod_lt_of_pos _ (by omega)
  · rfl

set_option maxHeartbeats 1000000 in
theorem l00Source_any (A : Option Addr) (n c : Nat) (w : World) (hn : n ≤ maxLen) (hA : RdB w A n) :
    Calls Try.prog 66 #[.slice A n c] w fun e w' => e = .returned (.pointer (some ⟨w.heap.size, 0, none⟩)) ∧ Src w' w.heap.size w.heap.size A n c 0 ∧ Below w.heap.size w w' := by
  unfold maxLen at hn
  have HA := Lib.hid hA; clear hA
  go_enter Try.func66, Try.ntmps66
  go_wp2
  go_ret
  refine ⟨rfl, ?_, below_alloc _ _⟩
  refine ⟨by simp, ⟨0, (n : Int) % 1000, by simp, by simp, by omega, by omega, by omega, by omega⟩, fun i => by simp, HA.out.below (below_alloc _ _), ?_, Nat.le_refl _⟩
  intro a ha hp
  obtain ⟨b, o, u, hb, hc, _⟩ := HA.out 0 hp
  rw [ha] at hb
  have := block_lt_of_cell hc
  cases hb
  exact this
end Go.Proofs.Ythianfhfamkcmaa

namespace Go.Proofs.Ythianfhfamkcmaa
open Go.RowKit

def inB (n lo hi : Int) : Bool := decide (lo ≤ n) && decide (n ≤ hi)
theorem inB_true {n lo hi : Int} (h : inB n lo hi = true) : lo ≤ n ∧ n ≤ hi := by simpa [inB] using h
theorem inB_false {n lo hi : Int} (h : inB n lo hi = false) : ¬ (lo ≤ n ∧ n ≤ hi) := by simp [inB] at h; omega
theorem inB_iff {n lo hi : Int} : inB n lo hi = true ↔ lo ≤ n ∧ n ≤ hi := by simp [inB]
def wordB (v : Int) : Bool := inB v (-1000000000) 1000000000
theorem wordB_iff (v : Int) : wordB v = true ↔ -1000000000 ≤ v ∧ v ≤ 1000000000 := by simp [wordB, inB]
def wordsB (zs : List Int) : Bool := zs.all wordB
theorem wordsB_iff (zs : List Int) : wordsB zs = true ↔ ∀ j, j < zs.length → wordB (zs.getD j 0) = true := by
  unfold wordsB
  rw [List.all_eq_true]
  constructor
  · intro h j hj
    simp only [List.getD, List.getElem?_eq_getElem hj, Option.getD_some]
    exact h _ (List.getElem_mem _)
  · intro h x hx
    obtain ⟨j, hj, rfl⟩ := List.getElem_of_mem hx
    have := h j hj
    simpa only [List.getD, List.getElem?_eq_getElem hj, Option.getD_some] using this
theorem wordsB_false {zs : List Int} {k : Nat} (h : k < zs.length) (hk : wordB (zs.getD k 0) = false) : wordsB zs = false := by
  cases hw : wordsB zs
  · rfl
  · rw [(wordsB_iff zs).1 hw k h] at hk; cases hk

theorem cell_keep {w w' : World} (hb : Below w.heap.size w w') {a : Addr} {v : Value} (h : w.cell? a = some v) : w'.cell? a = some v :=
  (hb.cell (p := a) (block_lt_of_cell h)).trans h

theorem below_alloc2 (w : World) (a b : Obj) : Below w.heap.size w ((w.alloc a).alloc b) := below_trans (below_alloc _ _) (below_alloc _ _)
theorem below_alloc3 (w : World) (a b c : Obj) : Below w.heap.size w (((w.alloc a).alloc b).alloc c) := below_trans (below_alloc2 _ _ _) (below_alloc _ _)

theorem below_drew_trans {w w' : World} (h : Below w.drew.heap.size w.drew w') : Below w.heap.size w w' := ⟨h.os, h.tape, h.output, h.size, h.block⟩
theorem grown_new {w a b : World} {row row' : Option Nat} (h : w.grownBy a row) (k : a.grownBy b row') (hr : ∀ q, row' = some q → w.heap.size ≤ q) : w.grownBy b row :=
  ⟨k.os.trans h.os, k.tape.trans h.tape, k.output.trans h.output, Nat.le_trans h.size k.size, fun i hi hne => (k.block i (Nat.lt_of_lt_of_le hi h.size) (fun e => by have := hr i e.symm; omega)).trans (h.block i hi hne)⟩
end Go.Proofs.Ythianfhfamkcmaa

namespace Go.Proofs.Ythianfhfamkcmaa
open Go.RowKit

set_option maxHeartbeats 400000 in
theorem wordOK_any (n : Int) (w : World) : Calls Try.prog 175 #[.int .i64 n] w fun e w' => e = .returned (.bool (wordB n)) ∧ w = w' := by
  unfold wordB inB
  by_cases h1 : -1000000000 ≤ n <;> by_cases h2 : n ≤ 1000000000
  all_goals
    go_enter Try.func175, Try.ntmps175
    go_wp2
    go_ret
    exact ⟨by simp [h1, h2], rfl⟩

set_option maxHeartbeats 1000000 in
theorem wordsOK_any (A : Option Addr) (c : Nat) (zs : List Int) (w : World) (hn : zs.length ≤ 1048576) (hA : Rd w A zs) :
    Calls Try.prog 166 #[.slice A zs.length c] w fun e w' => e = .returned (.bool (wordsB zs)) ∧ w = w' := by
  have HA := Lib.hid hA; clear hA
  go_enter Try.func166, Try.ntmps166
  go_wp2
  go_loop [7] (fun i => ∃ k : Nat, k ≤ zs.length ∧ i = .int .i64 k ∧ ∀ j, j < k → wordB (zs.getD j 0) = true) (fun i => zs.length - (intOf i).toNat)
  case atStart => exact ⟨0, Nat.zero_le _, rfl, fun j hj => absurd hj (by omega)⟩
  case round =>
    obtain ⟨k, hk, rfl, hall⟩ := hrel
    have HL := Lib.hid hall; clear hall
    by_cases hlt : k < zs.length
    · obtain ⟨b, o, rfl, hcell⟩ := HA.out k hlt
      generalize hx : zs.getD k 0 = x at *
      have HX := Lib.hid hx; clear hx
      cases hw : wordB x
      · have HN := Lib.hid (wordsB_false hlt (by rw [HX.out]; exact hw))
        go_wp2_with (go_at_call 175; refine (wordOK_any _ _).mono ?_; rintro e w' ⟨rfl, rfl⟩)
        go_ret
        exact ⟨ret_bool HN.out.symm, rfl⟩
      · go_wp2_with (go_at_call 175; refine (wordOK_any _ _).mono ?_; rintro e w' ⟨rfl, rfl⟩)
        go_round
        case rel => exact ⟨k + 1, by omega, by go_num, fun j hj => by
          by_cases e : j < k
          · exact HL.out j e
          · obtain rfl : j = k := by omega
            rw [HX.out]; exact hw⟩
        case measure => simp [intOf]; omega
    · have HN := Lib.hid ((wordsB_iff zs).2 fun j hj => HL.out j (by omega))
      go_wp2
      go_ret
      exact ⟨ret_bool HN.out.symm, rfl⟩
end Go.Proofs.Ythianfhfamkcmaa

namespace Go.Proofs.Ythianfhfamkcmaa
open Go.RowKit

set_option maxHeartbeats 400000 in
theorem l01In_any (n lo hi : Int) (w : World) : Calls Try.prog 102 #[.int .i64 n, .int .i64 lo, .int .i64 hi] w fun e w' => e = .returned (.bool (inB n lo hi)) ∧ w = w' := by
  unfold inB
  by_cases h1 : lo ≤ n <;> by_cases h2 : n ≤ hi
  all_goals
    go_enter Try.func102, Try.ntmps102
    go_wp2
    go_ret
    exact ⟨by simp [h1, h2], rfl⟩
end Go.Proofs.Ythianfhfamkcmaa

namespace Go.Proofs.Ythianfhfamkcmaa
open Go.RowKit

def opB (op : Int) : Bool := inB op 1 6
def waitB (op : Int) : Bool := inB op 1 3
def bringsB (op : Int) : Bool := op == 1 || op == 3 || op == 4
def argB (op arg : Int) : Bool := inB arg 0 (if bringsB op = true then 999 else 0)
def tilB (op til : Int) : Bool := inB til 0 (if waitB op = true then 1000000 else 0)
def regsB (r0 r1 r2 r3 r4 : Int) : Bool := wordB r0 && wordB r1 && wordB r2 && wordB r3 && wordB r4
def zeroB (r0 r1 r2 r3 r4 : Int) : Bool := r0 == 0 && r1 == 0 && r2 == 0 && r3 == 0 && r4 == 0
/-- What an idle thread has besides its Id. -/
def bareB (op arg pc til : Int) (per can : Bool) (r0 r1 r2 r3 r4 : Int) : Bool := op == 0 && arg == 0 && pc == 0 && til == 0 && per == false && can == false && zeroB r0 r1 r2 r3 r4
def idleB (op arg pc til : Int) (per can : Bool) (r0 r1 r2 r3 r4 code res : Int) : Bool := bareB op arg pc til per can r0 r1 r2 r3 r4 && inB code 0 19 && inB res 0 1000000000
def callB (op arg pc til r0 r1 r2 r3 r4 code res : Int) : Bool := opB op && argB op arg && tilB op til && inB pc 0 16 && regsB r0 r1 r2 r3 r4 && code == 0 && res == 0
/-- A thread that is right. -/
def thB (id st op arg pc til : Int) (per can : Bool) (r0 r1 r2 r3 r4 code res : Int) : Bool :=
  inB id 0 3 && (if st = 0 then idleB op arg pc til per can r0 r1 r2 r3 r4 code res else if st = 1 then callB op arg pc til r0 r1 r2 r3 r4 code res else if st = 2 then callB op arg pc til r0 r1 r2 r3 r4 code res && waitB op else false)

theorem opB_iff (op : Int) : opB op = true ↔ 1 ≤ op ∧ op ≤ 6 := inB_iff
theorem waitB_iff (op : Int) : waitB op = true ↔ 1 ≤ op ∧ op ≤ 3 := inB_iff
theorem bringsB_iff (op : Int) : bringsB op = true ↔ op = 1 ∨ op = 3 ∨ op = 4 := by simp [bringsB, or_assoc]

set_option maxHeartbeats 400000 in
theorem idOK_any (n : Int) (w : World) : Calls Try.prog 107 #[.int .i64 n] w fun e w' => e = .returned (.bool (inB n 0 3)) ∧ w = w' := by
  by_cases h1 : 0 ≤ n <;> by_cases h2 : n < 4
  all_goals
    go_enter Try.func107, Try.ntmps107
    go_wp2
    go_ret
    exact ⟨ret_bool (by simp [inB]; omega), rfl⟩

set_option maxHeartbeats 400000 in
theorem opOK_any (n : Int) (w : World) : Calls Try.prog 108 #[.int .i64 n] w fun e w' => e = .returned (.bool (opB n)) ∧ w = w' := by
  by_cases h1 : 1 ≤ n <;> by_cases h2 : n ≤ 6
  all_goals
    go_enter Try.func108, Try.ntmps108
    go_wp2
    go_ret
    exact ⟨ret_bool (by simp [opB, inB]; omega), rfl⟩

set_option maxHeartbeats 400000 in
theorem codeOK_any (n : Int) (w : World) : Calls Try.prog 129 #[.int .i64 n] w fun e w' => e = .returned (.bool (inB n 0 19)) ∧ w = w' := by
  by_cases h1 : 0 ≤ n <;> by_cases h2 : n < 20
  all_goals
    go_enter Try.func129, Try.ntmps129
    go_wp2
    go_ret
    exact ⟨ret_bool (by simp [inB]; omega), rfl⟩

set_option maxHeartbeats 400000 in
theorem implIsWaiting_any (n : Int) (w : World) : Calls Try.prog 181 #[.int .i64 n] w fun e w' => e = .returned (.bool (waitB n)) ∧ w = w' := by
  by_cases h1 : n = 1
  · subst h1
    go_enter Try.func181, Try.ntmps181
    go_wp2
    go_ret
    exact ⟨ret_bool (by decide), rfl⟩
  by_cases h2 : n = 2
  · subst h2
    clear h1
    go_enter Try.func181, Try.ntmps181
    go_wp2
    go_ret
    exact ⟨ret_bool (by decide), rfl⟩
  have HV : Hid (waitB n = (n == 3)) := by
    unfold Hid
    rw [Bool.eq_iff_iff, waitB_iff]; simp; omega
  have g1 : (n == 1) = false := by simpa using h1
  have g2 : (n == 2) = false := by simpa using h2
  clear h1 h2
  go_enter Try.func181, Try.ntmps181
  go_wp2
  go_ret
  exact ⟨ret_bool HV.out.symm, rfl⟩

set_option maxHeartbeats 1000000 in
theorem argOK_any (op arg : Int) (w : World) : Calls Try.prog 74 #[.int .i64 op, .int .i64 arg] w fun e w' => e = .returned (.bool (argB op arg)) ∧ w = w' := by
  by_cases h : op = 1 ∨ op = 3 ∨ op = 4
  · have HV : Hid (argB op arg = inB arg 0 999) := by unfold Hid argB; rw [if_pos ((bringsB_iff op).2 h)]
    rcases h with rfl | rfl | rfl
    all_goals
      by_cases h1 : 0 ≤ arg <;> by_cases h2 : arg < 1000
      all_goals
        go_enter Try.func74, Try.ntmps74
        go_wp2
        go_ret
        exact ⟨ret_bool (by rw [HV.out]; simp [inB]; omega), rfl⟩
  · have HV : Hid (argB op arg = (arg == 0)) := by
      unfold Hid argB
      rw [if_neg (fun e => h ((bringsB_iff op).1 e)), Bool.eq_iff_iff, inB_iff]; simp; omega
    have g1 : (op == 1) = false := by simp; omega
    have g3 : (op == 3) = false := by simp; omega
    have g4 : (op == 4) = false := by simp; omega
    clear h
    go_enter Try.func74, Try.ntmps74
    go_wp2
    go_ret
    exact ⟨ret_bool HV.out.symm, rfl⟩

set_option maxHeartbeats 400000 in
theorem timeOK_any (n : Int) (w : World) : Calls Try.prog 127 #[.int .i64 n] w fun e w' => e = .returned (.bool (inB n 0 1000000)) ∧ w = w' := by
  by_cases h1 : 0 ≤ n <;> by_cases h2 : n ≤ 1000000
  all_goals
    go_enter Try.func127, Try.ntmps127
    go_wp2
    go_ret
    exact ⟨ret_bool (by simp [inB]; omega), rfl⟩

set_option maxHeartbeats 1000000 in
theorem untilOK_any (op til : Int) (w : World) : Calls Try.prog 180 #[.int .i64 op, .int .i64 til] w fun e w' => e = .returned (.bool (tilB op til)) ∧ w = w' := by
  cases h : waitB op
  · have HV : Hid (tilB op til = (til == 0)) := by
      unfold Hid tilB
      rw [h, if_neg (by decide), Bool.eq_iff_iff, inB_iff]; simp; omega
    go_enter Try.func180, Try.ntmps180
    go_wp2_with (go_at_call 181; refine (implIsWaiting_any _ _).mono ?_; rintro e w' ⟨rfl, rfl⟩)
    go_ret
    exact ⟨ret_bool HV.out.symm, rfl⟩
  · have HV : Hid (tilB op til = inB til 0 1000000) := by unfold Hid tilB; rw [h, if_pos rfl]
    go_enter Try.func180, Try.ntmps180
    go_wp2_with (first | (go_at_call 181; refine (implIsWaiting_any _ _).mono ?_; rintro e w' ⟨rfl, rfl⟩) | (go_at_call 127; refine (timeOK_any _ _).mono ?_; rintro e w' ⟨rfl, rfl⟩))
    go_ret
    exact ⟨ret_bool HV.out.symm, rfl⟩

set_option maxHeartbeats 400000 in
theorem specIsWaiting_any (n : Int) (w : World) : Calls Try.prog 160 #[.int .i64 n] w fun e w' => e = .returned (.bool (waitB n)) ∧ w = w' := by
  unfold waitB
  go_enter Try.func160, Try.ntmps160
  go_wp2_with (go_at_call 102; refine (l01In_any _ _ _ _).mono ?_; rintro e w' ⟨rfl, rfl⟩)
  go_ret
  exact ⟨rfl, rfl⟩

set_option maxHeartbeats 400000 in
theorem l02Op_any (n : Int) (w : World) : Calls Try.prog 105 #[.int .i64 n] w fun e w' => e = .returned (.bool (opB n)) ∧ w = w' := by
  unfold opB
  go_enter Try.func105, Try.ntmps105
  go_wp2_with (go_at_call 102; refine (l01In_any _ _ _ _).mono ?_; rintro e w' ⟨rfl, rfl⟩)
  go_ret
  exact ⟨rfl, rfl⟩
end Go.Proofs.Ythianfhfamkcmaa

namespace Go.Proofs.Ythianfhfamkcmaa
open Go.RowKit

set_option maxHeartbeats 400000 in
theorem l01Word_any (n : Int) (w : World) : Calls Try.prog 164 #[.int .i64 n] w fun e w' => e = .returned (.bool (wordB n)) ∧ w = w' := by
  unfold wordB
  go_enter Try.func164, Try.ntmps164
  go_wp2_with (go_at_call 102; refine (l01In_any _ _ _ _).mono ?_; rintro e w' ⟨rfl, rfl⟩)
  go_ret
  exact ⟨rfl, rfl⟩
end Go.Proofs.Ythianfhfamkcmaa

namespace Go.Proofs.Ythianfhfamkcmaa
open Go.RowKit

theorem Try.infoInt : (Try.prog.info? 3).map (fun i => (i.zero, i.size, i.bytes)) = some (some (.int .i64 0), 1, 8) := by kernel_rfl

/-- What the size check leaves. -/
def leftB (l : Int) (n : Nat) : Int := if l - n < 0 then -1 else l - n
theorem leftB_neg {l : Int} {n : Nat} (h : leftB l n < 0) : leftB l n = -1 := by
  unfold leftB at *
  by_cases h' : l - n < 0
  · rw [if_pos h']
  · rw [if_neg h'] at h; omega

set_option maxHeartbeats 400000 in
theorem szIntS_any (A : Option Addr) (n c : Nat) (l : Int) (w : World) (hn : n ≤ maxLen) (h0 : 0 ≤ l) (h1 : l ≤ 1048576) :
    Calls Try.prog 45 #[.slice A n c, .int .i64 l] w fun e w' => e = .returned (.int .i64 (leftB l n)) ∧ w = w' := by
  unfold maxLen at hn
  by_cases hlt : l - (n : Int) < 0
  · have hL : leftB l n = -1 := by unfold leftB; rw [if_pos hlt]
    have HL := Lib.hid hL; clear hL
    go_enter Try.func45, Try.ntmps45
    go_wp2
    go_ret
    exact ⟨ret_int HL.out.symm, rfl⟩
  · have hL : leftB l n = l - n := by unfold leftB; rw [if_neg hlt]
    have HL := Lib.hid hL; clear hL
    go_enter Try.func45, Try.ntmps45
    go_wp2
    go_ret
    exact ⟨ret_int HL.out.symm, rfl⟩

set_option maxHeartbeats 400000 in
theorem szArena_any (A : Option Addr) (n c : Nat) (l : Int) (w : World) (hn : n ≤ maxLen) (h0 : 0 ≤ l) (h1 : l ≤ 1048576) :
    Calls Try.prog 86 #[.agg #[.slice A n c], .int .i64 l] w fun e w' => e = .returned (.int .i64 (leftB l n)) ∧ Below w.heap.size w w' := by
  by_cases hlt : leftB l n < 0
  · have hL : leftB l n = -1 := leftB_neg hlt
    have HL := Lib.hid hL; clear hL
    go_enter Try.func86, Try.ntmps86
    go_wp2_with (go_at_call 45; refine (szIntS_any _ _ _ _ _ hn h0 h1).mono ?_; rintro e w' ⟨rfl, rfl⟩)
    go_ret
    exact ⟨ret_int HL.out.symm, below_alloc _ _⟩
  · go_enter Try.func86, Try.ntmps86
    go_wp2_with (go_at_call 45; refine (szIntS_any _ _ _ _ _ hn h0 h1).mono ?_; rintro e w' ⟨rfl, rfl⟩)
    go_ret
    exact ⟨rfl, below_alloc _ _⟩

set_option maxHeartbeats 1000000 in
theorem toIntS_any (A : Option Addr) (c : Nat) (zs : List Int) (w : World) (hn : zs.length ≤ 1048576) (hA : Rd w A zs) :
    Calls Try.prog 52 #[.slice A zs.length c] w fun e w' => e = .returned (.slice (some ⟨w.heap.size, 0, none⟩) zs.length zs.length) ∧
      w'.ownsRow w.heap.size 3 1 (.slice (some ⟨w.heap.size, 0, none⟩) zs.length zs.length) zs.length (ints zs) ∧ Below w.heap.size w w' := by
  obtain ⟨i0, hi, hz0, hz1, hz2⟩ := info_parts Try.infoInt
  have hb2 : i0.bytes * zs.length ≤ 281474976710656 := by rw [hz2]; omega
  have hml : zs.length ≤ maxLen := by unfold maxLen; omega
  have Hi := Lib.hid hi; have Hz0 := Lib.hid hz0; have Hz1 := Lib.hid hz1; have Hz2 := Lib.hid hz2
  have Hb2 := Lib.hid hb2; have Hml := Lib.hid hml
  clear hi hz0 hz1 hz2 hb2 hml
  have HA := Lib.hid hA; clear hA
  go_enter Try.func52, Try.ntmps52
  go_wp2_with (at_make; refine wpList_make_full _ rfl (.tmp 6) (.tmp 6) 22 rfl w.heap.size 3 i0 (.int .i64 0) 1 Try.underlying22 Hi.out Hz0.out Hz1.out .i64 .i64 _ _ zs.length rfl rfl rfl rfl Hb2.out Hml.out (Nat.le_refl _) ?_)
  intro w1 hown hgr
  have hb := below_grown hgr
  rw [made_zero, ← fillTo_zero] at hown
  have HO := Lib.hid hown; have HB := Lib.hid hb
  clear hown hgr hb
  go_wp2
  go_loopw [4] (fun i wr => ∃ k : Nat, k ≤ zs.length ∧ i = .int .i64 k ∧ wr.ownsRow w.heap.size 3 1 (.slice (some ⟨w.heap.size, 0, none⟩) zs.length zs.length) zs.length (ints (fillTo zs k)) ∧ Below w.heap.size w wr)
    (fun i _ => zs.length - (intOf i).toNat)
  case atStart => exact ⟨0, Nat.zero_le _, rfl, HO.out, HB.out⟩
  case round =>
    obtain ⟨k, hk, rfl, hown, hbl⟩ := hrel
    have HO' := Lib.hid hown; have HB' := Lib.hid hbl
    clear hown hbl
    by_cases hlt : k < zs.length
    · obtain ⟨b, o, rfl, hcell⟩ := (HA.out.below HB'.out) k hlt
      have hold : wr.cell? ⟨w.heap.size, k, none⟩ = some (.int .i64 ((fillTo zs k).getD k 0)) := by
        rw [World.ownsRow.cellAt HO'.out k (by omega)]; exact ints_get _ _ (by rw [fillTo_length]; exact hlt)
      have hfz := HO'.out.frozenAt k
      have HS := Lib.hid (HO'.out.stored k (.int .i64 (zs.getD k 0)))
      generalize hx : zs.getD k 0 = x at *
      generalize hy : (fillTo zs k).getD k 0 = y at *
      have HX := Lib.hid hx
      clear hx hy
      go_wp2
      go_roundw
      case rel =>
        have h1 := HS.out.1
        rw [ints_set, ← HX.out, fillTo_set _ _ hlt, HX.out] at h1
        exact ⟨k + 1, by omega, by go_num, h1, HB'.out.setCell (Nat.le_refl _) _⟩
      case measure => simp [intOf]; omega
    · have hfin : Hid (fillTo zs k = zs) := fillTo_all _ _ (by omega)
      go_wp2
      go_ret
      refine ⟨rfl, ?_, HB'.out⟩
      have := HO'.out
      rw [hfin.out] at this
      exact this

set_option maxHeartbeats 1000000 in
theorem toArena_any (A : Option Addr) (c : Nat) (zs : List Int) (w : World) (hn : zs.length ≤ 1048576) (hA : Rd w A zs) :
    Calls Try.prog 89 #[.agg #[.slice A zs.length c]] w fun e w' => ∃ g, e = .returned (.agg #[.slice (some ⟨g, 0, none⟩) zs.length zs.length]) ∧
      w'.ownsRow w.heap.size 3 1 (.slice (some ⟨g, 0, none⟩) zs.length zs.length) zs.length (ints zs) ∧ Below w.heap.size w w' := by
  have HA := Lib.hid hA; clear hA
  go_enter Try.func89, Try.ntmps89
  go_wp2_with fail
  refine (toIntS_any _ _ _ _ hn (HA.out.below (((below_alloc _ _).alloc (by simp) _).alloc (by simp <;> omega) _))).mono ?_
  rintro e w' ⟨rfl, hown, hb⟩
  obtain ⟨hc, hf⟩ := bcell hb
  have HO := Lib.hid hown; have HB := Lib.hid hb
  clear hown hb
  go_wp2
  refine bodyPost_ret (v := .agg #[.slice (some ⟨w.heap.size + 1 + 1 + 1, 0, none⟩) zs.length zs.length]) (by simp [results, Try.results89, go_sem, hc]) rfl ⟨w.heap.size + 1 + 1 + 1, rfl, ?_, ?_⟩
  · have h := HO.out
    simp only [size_alloc] at h
    exact own_base (ownsRow_setCell_below (ownsRow_setCell_below h (by simp <;> omega) _) (by simp <;> omega) _) (by omega)
  · exact ((((below_alloc _ _).alloc (by simp) _).alloc (by simp <;> omega) _).trans (HB.out.mono (by simp <;> omega))).setCell (by simp <;> omega) _ |>.setCell (by simp) _
end Go.Proofs.Ythianfhfamkcmaa

namespace Go.Proofs.Ythianfhfamkcmaa
open Go.RowKit

set_option maxHeartbeats 1000000 in
theorem eqIntS_any (A B : Option Addr) (c d : Nat) (xs ys : List Int) (w : World) (hn : xs.length ≤ maxLen) (hm : ys.length ≤ maxLen) (hA : Rd w A xs) (hB : Rd w B ys) :
    Calls Try.prog 57 #[.slice A xs.length c, .slice B ys.length d] w fun e w' => e = .returned (.bool (decide (xs = ys))) ∧ ∃ n, w' = w.drewN n := by
  unfold maxLen at hn hm
  by_cases hl : xs.length = ys.length
  · have hl' : ((xs.length : Int) != (ys.length : Int)) = false := by simp [hl]
    have HL := Lib.hid hl; clear hl
    have HA := Lib.hid hA; have HB := Lib.hid hB; clear hA hB
    go_enter Try.func57, Try.ntmps57
    go_wp2
    go_loopw [5] (fun i wr => ∃ k : Nat, k ≤ xs.length ∧ i = .int .i64 k ∧ (∀ j, j < k → xs.getD j 0 = ys.getD j 0) ∧ ∃ n, wr = w.drewN n) (fun i _ => xs.length - (intOf i).toNat)
    case atStart => exact ⟨0, Nat.zero_le _, rfl, fun j hj => absurd hj (by omega), 0, rfl⟩
    case round =>
      obtain ⟨k, hk, rfl, hsame, n, rfl⟩ := hrel
      have HS := Lib.hid hsame; clear hsame
      by_cases hlt : k < xs.length
      · have hlt' : k < ys.length := by have := HL.out; omega
        obtain ⟨b, o, rfl, hcell⟩ := HA.out k hlt
        obtain ⟨b', o', rfl, hcell'⟩ := HB.out k hlt'
        generalize hx : xs.getD k 0 = x at *
        generalize hy : ys.getD k 0 = y at *
        have HX := Lib.hid hx; have HY := Lib.hid hy; clear hx hy
        by_cases hxy : x = y
        · subst hxy
          go_wp2
          go_region
          all_goals
            go_wp2
            go_roundw
            case rel => exact ⟨k + 1, by omega, by go_num, fun j hj => by
              by_cases e : j < k
              · exact HS.out j e
              · obtain rfl : j = k := by omega
                rw [HX.out, HY.out], n + 1, rfl⟩
            case measure => simp [intOf]; omega
        · have hne : (x != y) = true := by simp [hxy]
          have HN : Hid (decide (xs = ys) = false) := by
            apply decide_eq_false
            rintro rfl
            exact hxy (HX.out.symm.trans HY.out)
          clear hxy
          go_wp2
          go_region
          all_goals
            go_wp2
            go_ret
            exact ⟨ret_bool HN.out.symm, n + 1, rfl⟩
      · have HN : Hid (decide (xs = ys) = true) := by
          apply decide_eq_true
          apply List.ext_getElem? 
          intro j
          by_cases hj : j < xs.length
          · have h1 := HS.out j (by omega)
            have hj' : j < ys.length := by have := HL.out; omega
            simp only [List.getD, List.getElem?_eq_getElem hj, List.getElem?_eq_getElem hj', Option.getD_some] at h1
            rw [List.getElem?_eq_getElem hj, List.getElem?_eq_getElem hj', h1]
          · rw [List.getElem?_eq_none (by omega), List.getElem?_eq_none (by have := HL.out; omega)]
        go_wp2
        go_ret
        exact ⟨ret_bool HN.out.symm, n, rfl⟩
  · have hl' : ((xs.length : Int) != (ys.length : Int)) = true := by simp; omega
    have HN : Hid (decide (xs = ys) = false) := by
      apply decide_eq_false
      rintro rfl
      exact hl rfl
    clear hl
    go_enter Try.func57, Try.ntmps57
    go_wp2
    go_ret
    exact ⟨ret_bool HN.out.symm, 0, rfl⟩

set_option maxHeartbeats 1000000 in
theorem eqArena_any (A B : Option Addr) (c d : Nat) (xs ys : List Int) (w : World) (hn : xs.length ≤ maxLen) (hm : ys.length ≤ maxLen) (hA : Rd w A xs) (hB : Rd w B ys) :
    Calls Try.prog 94 #[.agg #[.slice A xs.length c], .agg #[.slice B ys.length d]] w fun e w' => e = .returned (.bool (decide (xs = ys))) ∧ Below w.heap.size w w' := by
  have HA := Lib.hid hA; have HB := Lib.hid hB; clear hA hB
  cases he : decide (xs = ys)
  all_goals
    have HE := Lib.hid he; clear he
    go_enter Try.func94, Try.ntmps94
    go_wp2_with fail
    refine (eqIntS_any _ _ _ _ xs ys _ hn hm (HA.out.below ((below_alloc _ _).alloc (by simp) _)) (HB.out.below ((below_alloc _ _).alloc (by simp) _))).mono ?_
    rintro e w' ⟨rfl, n, rfl⟩
    rw [HE.out]
    go_wp2
    go_ret
    exact ⟨rfl, ((below_alloc _ _).alloc (by simp) _).trans ((below_drewN _).mono (by simp <;> omega))⟩

/-- The numbers from k on, n of them. -/
def upFrom (k : Int) (n : Nat) : List Int := (List.range n).map fun (i : Nat) => k + (i : Int)
theorem upFrom_length (k : Int) (n : Nat) : (upFrom k n).length = n := by simp [upFrom]
theorem upFrom_get (k : Int) (n i : Nat) (h : i < n) : (upFrom k n).getD i 0 = k + i := by simp [upFrom, List.getD, h]
def markTo (k : Int) (zs : List Int) (j : Nat) : List Int := upFrom k j ++ zs.drop j
theorem markTo_zero (k : Int) (zs : List Int) : markTo k zs 0 = zs := by simp [markTo, upFrom]
theorem markTo_all (k : Int) (zs : List Int) (j : Nat) (h : j = zs.length) : markTo k zs j = upFrom k zs.length := by subst h; simp [markTo]
theorem markTo_length (k : Int) (zs : List Int) (j : Nat) (h : j ≤ zs.length) : (markTo k zs j).length = zs.length := by simp [markTo, upFrom_length]; omega
theorem upFrom_succ (k : Int) (j : Nat) : upFrom k (j + 1) = upFrom k j ++ [k + j] := by simp [upFrom, List.range_succ]
theorem markTo_set (k : Int) (zs : List Int) (j : Nat) (h : j < zs.length) : (markTo k zs j).set j (k + j) = markTo k zs (j + 1) := by
  unfold markTo
  rw [List.set_append_right _ _ (by rw [upFrom_length]; omega), upFrom_length, Nat.sub_self, upFrom_succ, List.append_assoc]
  rw [show zs.drop j = zs[j] :: zs.drop (j + 1) from List.drop_eq_getElem_cons h, List.set_cons_zero]; rfl

set_option maxHeartbeats 1000000 in
theorem markIntS_any (A : Option Addr) (c base : Nat) (zs : List Int) (k : Int) (w : World) (hn : zs.length ≤ 1048576) (h0 : 0 ≤ k) (h1 : k ≤ 1000000000)
    (hown : w.ownsRow base 3 1 (.slice A zs.length c) zs.length (ints zs)) :
    Calls Try.prog 59 #[.slice A zs.length c, .int .i64 k] w fun e w' => e = .returned (.int .i64 (k + zs.length)) ∧
      w'.ownsRow base 3 1 (.slice A zs.length c) zs.length (ints (upFrom k zs.length)) ∧ w.grownBy w' (Value.ownBlock (.slice A zs.length c)) := by
  have HO := Lib.hid hown; clear hown
  go_enter Try.func59, Try.ntmps59
  go_wp2
  go_loopw [1, 5] (fun kk i wr => ∃ j : Nat, j ≤ zs.length ∧ i = .int .i64 j ∧ kk = .int .i64 (k + j) ∧ wr.ownsRow base 3 1 (.slice A zs.length c) zs.length (ints (markTo k zs j)) ∧ w.grownBy wr (Value.ownBlock (.slice A zs.length c)))
    (fun _ i _ => zs.length - (intOf i).toNat)
  case atStart => exact ⟨0, Nat.zero_le _, rfl, by simp, by rw [markTo_zero]; exact HO.out, World.grownBy.refl _ _⟩
  case round =>
    obtain ⟨j, hj, rfl, rfl, hown, hgr⟩ := hrel
    have HO' := Lib.hid hown; have HG := Lib.hid hgr
    clear hown hgr
    by_cases hlt : j < zs.length
    · obtain ⟨g, rfl⟩ : ∃ g, A = some ⟨g, 0, none⟩ := by
        rcases HO'.out.2 with ⟨hv, h0⟩ | ⟨g, cap, cur, hv, _⟩
        · omega
        · simp only [Value.slice.injEq] at hv
          exact ⟨g, hv.1⟩
      have hold : wr.cell? ⟨g, j, none⟩ = some (.int .i64 ((markTo k zs j).getD j 0)) := by
        rw [World.ownsRow.cellAt HO'.out j (by omega)]; exact ints_get _ _ (by rw [markTo_length _ _ _ hj]; exact hlt)
      have hfz := HO'.out.frozenAt j
      have HS := Lib.hid (HO'.out.stored j (.int .i64 (k + j)))
      generalize hy : (markTo k zs j).getD j 0 = y at *
      clear hy
      go_wp2
      go_roundw
      case rel =>
        have h1 := HS.out.1
        rw [ints_set, markTo_set _ _ _ hlt] at h1
        exact ⟨j + 1, by omega, by go_num, by go_num, h1, grown_trans HG.out HS.out.2⟩
      case measure => simp [intOf]; omega
    · obtain rfl : j = zs.length := by omega
      go_wp2
      go_ret
      refine ⟨rfl, ?_, HG.out⟩
      have := HO'.out
      rwa [markTo_all _ _ _ rfl] at this

set_option maxHeartbeats 1000000 in
theorem heldIntS_any (A : Option Addr) (n c : Nat) (k : Int) (w : World) (hn : n ≤ 1048576) (h0 : 0 ≤ k) (h1 : k ≤ 1000000000) (hA : Rd w A (upFrom k n)) :
    Calls Try.prog 61 #[.slice A n c, .int .i64 k] w fun e w' => e = .returned (.int .i64 (k + n)) ∧ w = w' := by
  have HA := Lib.hid hA; clear hA
  go_enter Try.func61, Try.ntmps61
  go_wp2
  go_loop [1, 5] (fun kk i => ∃ j : Nat, j ≤ n ∧ i = .int .i64 j ∧ kk = .int .i64 (k + j)) (fun _ i => n - (intOf i).toNat)
  case atStart => exact ⟨0, Nat.zero_le _, rfl, by simp⟩
  case round =>
    obtain ⟨j, hj, rfl, rfl⟩ := hrel
    by_cases hlt : j < n
    · obtain ⟨b, o, rfl, hcell⟩ := HA.out j (by rw [upFrom_length]; exact hlt)
      rw [upFrom_get _ _ _ hlt] at hcell
      go_wp2
      go_round
      case rel => exact ⟨j + 1, by omega, by go_num, by go_num⟩
      case measure => simp [intOf]; omega
    · obtain rfl : j = n := by omega
      go_wp2
      go_ret
      exact ⟨rfl, rfl⟩

end Go.Proofs.Ythianfhfamkcmaa

namespace Go.Proofs.Ythianfhfamkcmaa
open Go.RowKit

def arenaB (zs : List Int) : Bool := decide (1 ≤ zs.length) && decide (zs.length ≤ 400) && (zs.getD 0 0 == 0) && wordsB zs
def cellCode (zs : List Int) (at_ : Int) : Int := if arenaB zs = true then (if 1 ≤ at_ ∧ at_ < zs.length then 0 else 4) else 1

theorem arenaB_false {zs : List Int} (h : zs.length < 1 ∨ 400 < zs.length ∨ (zs.getD 0 0 == 0) = false ∨ wordsB zs = false) : arenaB zs = false := by
  unfold arenaB
  rcases h with h | h | h | h
  · rw [decide_eq_false (by omega : ¬ 1 ≤ zs.length)]; rfl
  · rw [decide_eq_false (by omega : ¬ zs.length ≤ 400), Bool.and_false]; rfl
  · rw [h, Bool.and_false]; rfl
  · rw [h, Bool.and_false]
theorem arenaB_true {zs : List Int} (h1 : 1 ≤ zs.length) (h2 : zs.length ≤ 400) (h3 : (zs.getD 0 0 == 0) = true) (h4 : wordsB zs = true) : arenaB zs = true := by
  unfold arenaB
  rw [decide_eq_true h1, decide_eq_true h2, h3, h4]; rfl
theorem arenaB_parts {zs : List Int} (h : arenaB zs = true) : 1 ≤ zs.length ∧ zs.length ≤ 400 ∧ zs.getD 0 0 = 0 ∧ wordsB zs = true := by
  unfold arenaB at h
  rw [Bool.and_eq_true, Bool.and_eq_true, Bool.and_eq_true] at h
  exact ⟨of_decide_eq_true h.1.1.1, of_decide_eq_true h.1.1.2, by simpa using h.1.2, h.2⟩

set_option maxHeartbeats 1000000 in
theorem implArenaOK_any (A : Option Addr) (c : Nat) (zs : List Int) (w : World) (hn : zs.length ≤ 1048576) (hA : Rd w A zs) :
    Calls Try.prog 139 #[.agg #[.slice A zs.length c]] w fun e w' => e = .returned (.bool (arenaB zs)) ∧ Below w.heap.size w w' := by
  by_cases h1 : zs.length < 1
  · have HN := Lib.hid (arenaB_false (zs := zs) (.inl h1))
    have hd : decide (zs.length < 1) = true := decide_eq_true h1
    clear hA
    go_enter Try.func139, Try.ntmps139
    go_wp2
    go_ret
    exact ⟨ret_bool HN.out.symm, below_alloc _ _⟩
  by_cases h2 : 400 < zs.length
  · have HN := Lib.hid (arenaB_false (zs := zs) (.inr (.inl h2)))
    clear hA
    go_enter Try.func139, Try.ntmps139
    go_wp2
    go_ret
    exact ⟨ret_bool HN.out.symm, below_alloc _ _⟩
  have hp : 0 < zs.length := by omega
  obtain ⟨b, o, rfl, hcell⟩ := hA 0 hp
  have HA := Lib.hid hA; clear hA
  have hcell' : (w.alloc (.cells #[.slice (some ⟨b, o, none⟩) zs.length c] 70)).cell? ⟨b, o, none⟩ = some (.int .i64 (zs.getD 0 0)) := by
    rw [(below_alloc w _).cell (p := ⟨b, o, none⟩) (block_lt_of_cell hcell)]; exact hcell
  generalize hx : zs.getD 0 0 = x at *
  have HX := Lib.hid hx; clear hx
  have hd1 : decide (zs.length < 1) = false := decide_eq_false (by omega)
  have hd2 : decide (400 < zs.length) = false := decide_eq_false (by omega)
  cases h3 : (x == 0)
  · have HN := Lib.hid (arenaB_false (zs := zs) (.inr (.inr (.inl (by rw [HX.out]; exact h3)))))
    go_enter Try.func139, Try.ntmps139
    go_wp2
    go_ret
    exact ⟨ret_bool HN.out.symm, below_alloc _ _⟩
  · have HN : Hid (arenaB zs = wordsB zs) := by
      cases hw : wordsB zs
      · exact arenaB_false (.inr (.inr (.inr hw)))
      · exact arenaB_true (by omega) (by omega) (by rw [HX.out]; exact h3) hw
    go_enter Try.func139, Try.ntmps139
    go_wp2_with (go_at_call 166; refine (wordsOK_any _ _ zs _ hn (HA.out.below (below_alloc _ _))).mono ?_; rintro e w' ⟨rfl, rfl⟩)
    go_ret
    exact ⟨ret_bool HN.out.symm, below_alloc _ _⟩
end Go.Proofs.Ythianfhfamkcmaa

namespace Go.Proofs.Ythianfhfamkcmaa
open Go.RowKit

set_option maxHeartbeats 1000000 in
theorem specArenaOK_any (A : Option Addr) (c : Nat) (zs : List Int) (w : World) (hn : zs.length ≤ 1048576) (hA : Rd w A zs) :
    Calls Try.prog 134 #[.agg #[.slice A zs.length c]] w fun e w' => e = .returned (.bool (arenaB zs)) ∧ Below w.heap.size w w' := by
  have HA := Lib.hid (hA.below (below_alloc w (.cells #[.slice A zs.length c] 70))); clear hA
  go_enter Try.func134, Try.ntmps134
  go_wp2
  go_loop [3] (fun i => ∃ k : Nat, k ≤ zs.length ∧ i = .int .i64 k ∧ ∀ j, j < k → wordB (zs.getD j 0) = true) (fun i => zs.length - (intOf i).toNat)
  case atStart => exact ⟨0, Nat.zero_le _, rfl, fun j hj => absurd hj (by omega)⟩
  case round =>
    obtain ⟨k, hk, rfl, hall⟩ := hrel
    have HL := Lib.hid hall; clear hall
    by_cases hlt : k < zs.length
    · obtain ⟨b, o, rfl, hcell⟩ := HA.out k hlt
      generalize hx : zs.getD k 0 = x at *
      have HX := Lib.hid hx; clear hx
      cases hw : wordB x
      · have HN := Lib.hid (arenaB_false (zs := zs) (.inr (.inr (.inr (wordsB_false hlt (by rw [HX.out]; exact hw))))))
        go_wp2_with (go_at_call 164; refine (l01Word_any _ _).mono ?_; rintro e w' ⟨rfl, rfl⟩)
        go_ret
        exact ⟨ret_bool HN.out.symm, below_alloc _ _⟩
      · go_wp2_with (go_at_call 164; refine (l01Word_any _ _).mono ?_; rintro e w' ⟨rfl, rfl⟩)
        go_round
        case rel => exact ⟨k + 1, by omega, by go_num, fun j hj => by
          by_cases e : j < k
          · exact HL.out j e
          · obtain rfl : j = k := by omega
            rw [HX.out]; exact hw⟩
        case measure => simp [intOf]; omega
    · have HW := Lib.hid ((wordsB_iff zs).2 fun j hj => HL.out j (by omega))
      cases hi : inB (zs.length : Int) 1 400
      · have HN : Hid (arenaB zs = false) := by
          have := inB_false hi
          by_cases h1 : zs.length < 1
          · exact arenaB_false (.inl h1)
          · exact arenaB_false (.inr (.inl (by omega)))
        go_wp2_with (go_at_call 102; refine (l01In_any _ _ _ _).mono ?_; rintro e w' ⟨rfl, rfl⟩)
        go_ret
        exact ⟨ret_bool HN.out.symm, below_alloc _ _⟩
      · have hb := inB_true hi
        have hp : 0 < zs.length := by omega
        obtain ⟨b, o, rfl, hcell⟩ := HA.out 0 hp
        rw [Nat.add_zero] at hcell
        generalize hx : zs.getD 0 0 = x at *
        have HX := Lib.hid hx; clear hx
        cases h3 : (x == 0)
        · have HN := Lib.hid (arenaB_false (zs := zs) (.inr (.inr (.inl (by rw [HX.out]; exact h3)))))
          go_wp2_with (go_at_call 102; refine (l01In_any _ _ _ _).mono ?_; rintro e w' ⟨rfl, rfl⟩)
          go_ret
          exact ⟨ret_bool HN.out.symm, below_alloc _ _⟩
        · have HN := Lib.hid (arenaB_true (zs := zs) (by omega) (by omega) (by rw [HX.out]; exact h3) HW.out)
          go_wp2_with (go_at_call 102; refine (l01In_any _ _ _ _).mono ?_; rintro e w' ⟨rfl, rfl⟩)
          go_ret
          exact ⟨ret_bool HN.out.symm, below_alloc _ _⟩

theorem cellCode_bad {zs : List Int} {p : Int} (h : arenaB zs = false) : cellCode zs p = 1 := by simp [cellCode, h]
theorem cellCode_range {zs : List Int} {p : Int} (h : arenaB zs = true) (h' : ¬ (1 ≤ p ∧ p < zs.length)) : cellCode zs p = 4 := by
  unfold cellCode; rw [if_pos h, if_neg h']
theorem cellCode_ok {zs : List Int} {p : Int} (h : arenaB zs = true) (h' : 1 ≤ p ∧ p < zs.length) : cellCode zs p = 0 := by
  unfold cellCode; rw [if_pos h, if_pos h']
theorem cellCode_zero {zs : List Int} {p : Int} (h : cellCode zs p = 0) : arenaB zs = true ∧ 1 ≤ p ∧ p < zs.length := by
  unfold cellCode at h
  by_cases h1 : arenaB zs = true
  · rw [if_pos h1] at h
    by_cases h2 : 1 ≤ p ∧ p < zs.length
    · exact ⟨h1, h2⟩
    · rw [if_neg h2] at h; cases h
  · rw [if_neg h1] at h; cases h

end Go.Proofs.Ythianfhfamkcmaa

namespace Go.Proofs.Ythianfhfamkcmaa
open Go.RowKit

theorem Try.sizeInt : (Try.prog.info? 3).map (·.size) = some 1 := by kernel_rfl
theorem splice_front (zs : List Int) (m : Nat) : splice (ints (List.replicate (zs.length + m) 0)) 0 (ints zs) = ints (zs ++ List.replicate m 0) := by
  simp [splice, ints, List.drop_replicate]

theorem set_toNat (zs : List Int) (k : Nat) (v : Int) : zs.set ((k : Int).toNat) v = zs.set k v := by rw [Int.toNat_natCast]

/-- A new arena of the list zs, in memory from B on. -/
def NewA (B : Nat) (w : World) (A : Option Addr) (c : Nat) (zs : List Int) : Prop := w.ownsRow B 3 1 (.slice A zs.length c) zs.length (ints zs)
theorem NewA.rd {B : Nat} {w : World} {A : Option Addr} {c : Nat} {zs : List Int} (h : NewA B w A c zs) : Rd w A zs := Rd.of_own h
theorem NewA.nil (B : Nat) (w : World) : NewA B w none 0 [] := World.ownsRow_nil _ _ _ _
theorem NewA.below {B : Nat} {w w' : World} {A : Option Addr} {c : Nat} {zs : List Int} (h : NewA B w A c zs) (hb : Below w.heap.size w w') : NewA B w' A c zs := own_below h hb
theorem NewA.base {B B' : Nat} {w : World} {A : Option Addr} {c : Nat} {zs : List Int} (h : NewA B w A c zs) (hb : B' ≤ B) : NewA B' w A c zs := own_base h hb
theorem NewA.setCell {B : Nat} {w : World} {A : Option Addr} {c : Nat} {zs : List Int} (h : NewA B w A c zs) {a : Addr} (ha : a.block < B) (u : Value) : NewA B (w.setCell a u) A c zs := ownsRow_setCell_below h ha u

end Go.Proofs.Ythianfhfamkcmaa

namespace Go.Proofs.Ythianfhfamkcmaa
open Go.RowKit

/-- The cells of so many structs, one behind the other. -/
def flatV {α : Type} (f : α → List Value) (l : List α) : List Value := (l.map f).flatten
theorem flatV_len {α : Type} {f : α → List Value} {s : Nat} (hf : ∀ x, (f x).length = s) : ∀ l : List α, (flatV f l).length = l.length * s
  | [] => by simp [flatV]
  | x :: l => by
    have := flatV_len hf l
    unfold flatV at this ⊢
    rw [List.map_cons, List.flatten_cons, List.length_append, this, hf, List.length_cons, Nat.add_mul]
    omega
theorem flatV_get {α : Type} {f : α → List Value} {s : Nat} (hf : ∀ x, (f x).length = s) : ∀ (l : List α) (i j : Nat) (x : α), l[i]? = some x → j < s → (flatV f l)[i * s + j]? = (f x)[j]?
  | [], i, _, _, h, _ => by simp at h
  | y :: l, 0, j, x, h, hj => by
    simp at h
    subst h
    unfold flatV
    rw [List.map_cons, List.flatten_cons, Nat.zero_mul, Nat.zero_add, List.getElem?_append_left (by rw [hf]; exact hj)]
  | y :: l, i + 1, j, x, h, hj => by
    have ih := flatV_get hf l i j x (by simpa using h) hj
    unfold flatV at ih ⊢
    rw [List.map_cons, List.flatten_cons, List.getElem?_append_right (by rw [hf, Nat.add_mul]; omega), hf, ← ih]
    congr 1
    rw [Nat.add_mul]; omega

/-- A slice of structs reads as this list. -/
def RdR {α : Type} (f : α → List Value) (w : World) (A : Option Addr) (l : List α) : Prop := l = [] ∨ ∃ b o, A = some ⟨b, o, none⟩ ∧ w.rangeAt b o (flatV f l)
theorem RdR.nil {α : Type} (f : α → List Value) (w : World) (A : Option Addr) : RdR f w A [] := .inl rfl
theorem RdR.row {α : Type} {f : α → List Value} {s : Nat} (hf : ∀ x, (f x).length = s) {w : World} {A : Option Addr} {l : List α} (h : RdR f w A l) (i : Nat) (x : α) (hx : l[i]? = some x) :
    ∃ b o, A = some ⟨b, o, none⟩ ∧ w.rangeAt b (o + i * s) (f x) := by
  rcases h with rfl | ⟨b, o, rfl, hr⟩
  · simp at hx
  · refine ⟨b, o, rfl, fun j v hv => ?_⟩
    have hj : j < s := by have := (List.getElem?_eq_some_iff.1 hv).1; rwa [hf] at this
    have := hr (i * s + j) v (by rw [flatV_get hf l i j x hx hj]; exact hv)
    rwa [← Nat.add_assoc] at this
theorem RdR.below {α : Type} {f : α → List Value} {w w' : World} {A : Option Addr} {l : List α} (h : RdR f w A l) (hb : Below w.heap.size w w') : RdR f w' A l := by
  rcases h with rfl | ⟨b, o, rfl, hr⟩
  · exact .inl rfl
  · exact .inr ⟨b, o, rfl, fun j v hv => cell_keep hb (hr j v hv)⟩

/-- A slice of structs of the call's own. -/
def OwnR {α : Type} (f : α → List Value) (s : Nat) (T : TypeId) (B : Nat) (w : World) (A : Option Addr) (c : Nat) (l : List α) : Prop := w.ownsRow B T s (.slice A l.length c) l.length (flatV f l)
theorem OwnR.rd {α : Type} {f : α → List Value} {s : Nat} {T : TypeId} {B : Nat} {w : World} {A : Option Addr} {c : Nat} {l : List α} (h : OwnR f s T B w A c l) : RdR f w A l := by
  rcases h.2 with ⟨h1, h2⟩ | ⟨g, cap, cur, h1, hg, hh, hn, hm, hs, ht⟩
  · exact .inl (List.eq_nil_of_length_eq_zero h2)
  · simp only [Value.slice.injEq] at h1
    obtain ⟨rfl, _, rfl⟩ := h1
    refine .inr ⟨g, 0, rfl, fun j v hv => ?_⟩
    have hj : j < (flatV f l).length := (List.getElem?_eq_some_iff.1 hv).1
    rw [← ht, List.getElem?_take] at hv
    split at hv
    · rw [Nat.zero_add]
      rw [cell_of_row w g j cur T (0, 0) hh]
      simpa using hv
    · cases hv
theorem OwnR.below {α : Type} {f : α → List Value} {s : Nat} {T : TypeId} {B : Nat} {w w' : World} {A : Option Addr} {c : Nat} {l : List α} (h : OwnR f s T B w A c l) (hb : Below w.heap.size w w') : OwnR f s T B w' A c l := own_below h hb
theorem OwnR.base {α : Type} {f : α → List Value} {s : Nat} {T : TypeId} {B B' : Nat} {w : World} {A : Option Addr} {c : Nat} {l : List α} (h : OwnR f s T B w A c l) (hb : B' ≤ B) : OwnR f s T B' w A c l := own_base h hb

/-- So many values written over a list from here on. -/
def setSeg : List Value → Nat → List Value → List Value
  | xs, _, [] => xs
  | xs, o, v :: r => setSeg (xs.set o v) (o + 1) r
theorem setSeg_get : ∀ (vs xs : List Value) (o i : Nat), (setSeg xs o vs)[i]? = if o ≤ i ∧ i < o + vs.length ∧ i < xs.length then vs[i - o]? else xs[i]?
  | [], xs, o, i => by
    unfold setSeg
    split
    · rename_i h; simp at h; omega
    · rfl
  | v :: r, xs, o, i => by
    unfold setSeg
    rw [setSeg_get r (xs.set o v) (o + 1) i, List.length_set, List.getElem?_set]
    simp only [List.length_cons]
    by_cases h1 : i = o
    · subst h1
      by_cases h2 : i < xs.length
      · rw [if_neg (by omega), if_pos rfl, if_pos h2, if_pos (by omega)]; simp
      · rw [if_neg (by omega), if_pos rfl, if_neg h2, if_neg (by omega), List.getElem?_eq_none (by omega)]
    · rw [if_neg (Ne.symm h1)]
      by_cases h3 : o + 1 ≤ i ∧ i < o + 1 + r.length ∧ i < xs.length
      · rw [if_pos h3, if_pos (by omega)]
        rw [show i - o = (i - (o + 1)) + 1 from by omega, List.getElem?_cons_succ]
      · rw [if_neg h3, if_neg (by omega)]
theorem flatV_set {α : Type} {f : α → List Value} {s : Nat} (hf : ∀ x, (f x).length = s) (l : List α) (k : Nat) (x : α) (hk : k < l.length) : setSeg (flatV f l) (k * s) (f x) = flatV f (l.set k x) := by
  apply List.ext_getElem?
  intro i
  rw [setSeg_get, hf, flatV_len hf]
  by_cases hs : s = 0
  · subst hs
    rw [if_neg (by omega)]
    have h1 : flatV f l = [] := List.eq_nil_of_length_eq_zero (by rw [flatV_len hf]; omega)
    have h2 : flatV f (l.set k x) = [] := List.eq_nil_of_length_eq_zero (by rw [flatV_len hf]; omega)
    rw [h1, h2]
  have hpos : 0 < s := Nat.pos_of_ne_zero hs
  by_cases hi : i < l.length * s
  · have hq : i / s < l.length := (Nat.div_lt_iff_lt_mul hpos).2 hi
    have hr : i % s < s := Nat.mod_lt _ hpos
    have hd : i / s * s + i % s = i := by rw [Nat.mul_comm]; exact Nat.div_add_mod i s
    by_cases hkk : i / s = k
    · have hg := flatV_get hf (l.set k x) k (i % s) x (by rw [List.getElem?_set, if_pos rfl, if_pos hk]) hr
      have hik : k * s + i % s = i := by rw [← hkk]; exact hd
      rw [hik] at hg
      rw [hg, if_pos ⟨by omega, by omega, hi⟩, show i - k * s = i % s from by omega]
    · have hy : l[i / s]? = some (l[i / s]) := List.getElem?_eq_getElem hq
      have hg1 := flatV_get hf l (i / s) (i % s) _ hy hr
      have hg2 := flatV_get hf (l.set k x) (i / s) (i % s) _ (by rw [List.getElem?_set, if_neg (fun h => hkk h.symm)]; exact hy) hr
      rw [hd] at hg1 hg2
      rw [hg2, ← hg1]
      refine if_neg (fun hh => hkk ?_)
      have h1 := hh.1
      have h2 := hh.2.1
      apply Nat.le_antisymm
      · apply Nat.lt_succ_iff.1
        rw [Nat.div_lt_iff_lt_mul hpos, Nat.succ_mul]; omega
      · rw [Nat.le_div_iff_mul_le hpos]; exact h1
  · rw [if_neg (by omega), List.getElem?_eq_none (by rw [flatV_len hf]; omega), List.getElem?_eq_none (by rw [flatV_len hf, List.length_set]; omega)]

theorem owns_setCells {B : Nat} {e : TypeId} {size n cap g : Nat} : ∀ (vs : List Value) (o : Nat) (w : World) (xs : List Value), w.ownsRow B e size (.slice (some ⟨g, 0, none⟩) n cap) n xs → o + vs.length ≤ xs.length →
    (w.setCells g o vs).ownsRow B e size (.slice (some ⟨g, 0, none⟩) n cap) n (setSeg xs o vs)
  | [], _, _, _, h, _ => h
  | v :: r, o, w, xs, h, hl => by
    rw [World.setCells, setSeg]
    simp only [List.length_cons] at hl
    exact owns_setCells r (o + 1) _ _ (h.stored o v).1 (by rw [List.length_set]; omega)
theorem OwnR.set {α : Type} {f : α → List Value} {s : Nat} (hf : ∀ x, (f x).length = s) {T : TypeId} {B g c : Nat} {w : World} {l : List α} (h : OwnR f s T B w (some ⟨g, 0, none⟩) c l) (k : Nat) (x : α) (hk : k < l.length) :
    OwnR f s T B (w.setCells g (k * s) (f x)) (some ⟨g, 0, none⟩) c (l.set k x) := by
  have h1 := owns_setCells (f x) (k * s) w _ h (by rw [hf, flatV_len hf, ← Nat.succ_mul]; exact Nat.mul_le_mul_right s hk)
  unfold OwnR
  rw [← flatV_set hf l k x hk, List.length_set]
  exact h1
/-- An element's cells are there. -/
theorem OwnR.there {α : Type} {f : α → List Value} {s : Nat} (hf : ∀ x, (f x).length = s) {T : TypeId} {B g c : Nat} {w : World} {l : List α} (h : OwnR f s T B w (some ⟨g, 0, none⟩) c l) (k : Nat) (hk : k < l.length) : w.there g (k * s) s := by
  intro j hj
  obtain ⟨b, o, hA, hr⟩ := h.rd.row hf k _ (List.getElem?_eq_getElem hk)
  simp only [Option.some.injEq, Addr.mk.injEq, and_true] at hA
  obtain ⟨rfl, rfl⟩ := hA
  rw [Nat.zero_add] at hr
  refine ⟨hr.isSome j (by rw [hf]; exact hj), h.frozenAt (k * s + j)⟩
theorem below_setCells {W : World} {B g : Nat} (hg : B ≤ g) : ∀ (vs : List Value) (o : Nat) (w : World), Below B W w → Below B W (w.setCells g o vs)
  | [], _, _, h => h
  | v :: r, o, _, h => below_setCells hg r (o + 1) _ (h.setCell hg v)
end Go.Proofs.Ythianfhfamkcmaa

namespace Go.Proofs.Ythianfhfamkcmaa
open Go.RowKit

def loadVal (zs : List Int) (p : Int) : Int := if cellCode zs p = 0 then zs.getD p.toNat 0 else 0
theorem cellCode_cases (zs : List Int) (p : Int) : cellCode zs p = 0 ∨ cellCode zs p = 1 ∨ cellCode zs p = 4 := by
  unfold cellCode
  by_cases h1 : arenaB zs = true
  · rw [if_pos h1]
    by_cases h2 : 1 ≤ p ∧ p < zs.length
    · rw [if_pos h2]; exact .inl rfl
    · rw [if_neg h2]; exact .inr (.inr rfl)
  · rw [if_neg h1]; exact .inr (.inl rfl)
theorem ret_int2 {k k' : IntKind} {a b a' b' : Int} (h : a = b) (h' : a' = b') : Ending.returned (.tuple #[.int k a, .int k' a']) = .returned (.tuple #[.int k b, .int k' b']) := by rw [h, h']

end Go.Proofs.Ythianfhfamkcmaa
