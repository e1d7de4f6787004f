/-
  Words for memory that the contracts use: a slice of integers that is read (Rd), rows of the call's own, what stays.
  Two closed facts on the program.
  How the arguments of the laws are opened: arenas, lists of integers.
  How the arguments of the laws over threads are opened.
  A region that draws its order, by what holds whatever of it has been done so far: one case for each operation, whatever the orders are.
  Words that arenas and threads share: what a word is; what stays.
  The program's wordOK and wordsOK.
  The model's l01In.
  Threads (chapter 3): what a right thread is, and contracts of the small functions, the program's and the model's.
  Threads (chapter 3): contracts of ThreadOK, the program's, and of what it calls.
  Threads (chapter 3): NewThread and BeginCall.
  The model's l01Word.
  Two threads compared (struct and array compared), as the model runs it.
  A thread in a block of its own.
  A thread in a block of its own: one cell is set.
  References of nodes: NodeRef, NodeAt, ItemWaits, the program's and the model's; the walks of their exact laws.
  Contracts of the laws' helpers over lists of integers and arenas.
  Contracts of the laws' helpers that compare, mark and hold lists of integers and arenas.
  Fifteen stores into a thread's block are one row.
  Threads in blocks of their own: the laws' own too.
  A thread's whole block loaded by an operation that is guarded.
-/
import Derived.Test.YtabojajhnhcemaaRows
import Derived.WalkKit
import Derived.WalkSpells
import Derived.Lib.Hide
import Derived.Deep.QuietTactic
import Derived.BigQuiet
import Derived.Deep.RegionHeld3
import Derived.Laws.CopyOwn
import Derived.ProofKit
import Derived.OpenShut
import Derived.ShutString
import Derived.ChangeOld
import Derived.Lib.SmallJoins
import Derived.BigFrame
import Derived.Laws.StructEq
import Derived.Laws.Tables
import Derived.Laws.Rows
namespace Go.Proofs.Ytabojajhnhcemaa
open Go.RowKit

theorem ret_bool {a b : Bool} (h : a = b) : Ending.returned (.bool a) = .returned (.bool b) := by rw [h]
theorem ret_int {k : IntKind} {a b : Int} (h : a = b) : Ending.returned (.int k a) = .returned (.int k b) := by rw [h]

/-- The integers of a list as values of the kind int. -/
def ints (zs : List Int) : List Value := zs.map (Value.int .i64)
theorem length_ints (zs : List Int) : (ints zs).length = zs.length := by simp [ints]
theorem ints_get (zs : List Int) (i : Nat) (h : i < zs.length) : (ints zs)[i]? = some (.int .i64 (zs.getD i 0)) := by
  simp [ints, List.getD, h]
theorem ints_one (zs : List Int) : ∀ u ∈ ints zs, u.oneCell' = true := ints_oneCell _ _

/-- A slice at A reads as the list zs. -/
def Rd (w : World) (A : Option Addr) (zs : List Int) : Prop :=
  ∀ i, i < zs.length → ∃ b o, A = some ⟨b, o, none⟩ ∧ w.cell? ⟨b, o + i, none⟩ = some (.int .i64 (zs.getD i 0))

theorem Rd.nil (w : World) (A : Option Addr) : Rd w A [] := fun _ h => absurd h (by simp)

theorem Rd.keep {w w' : World} {A : Option Addr} {zs : List Int} (h : Rd w A zs) (_hk : ∀ a v, A = some a → w.cell? a = some v → True) (hc : ∀ b o v, w.cell? ⟨b, o, none⟩ = some v → (∃ a, A = some a ∧ a.block = b) → w'.cell? ⟨b, o, none⟩ = some v) : Rd w' A zs := by
  intro i hi
  obtain ⟨b, o, hA, hcell⟩ := h i hi
  exact ⟨b, o, hA, hc b (o + i) _ hcell ⟨_, hA, rfl⟩⟩

theorem Rd.below {w w' : World} {A : Option Addr} {zs : List Int} (h : Rd w A zs) (hb : Below w.heap.size w w') : Rd w' A zs := by
  intro i hi
  obtain ⟨b, o, hA, hcell⟩ := h i hi
  exact ⟨b, o, hA, by rw [hb.cell (p := ⟨b, o + i, none⟩) (block_lt_of_cell hcell)]; exact hcell⟩

theorem Rd.drew {w : World} {A : Option Addr} {zs : List Int} (h : Rd w A zs) : Rd w.drew A zs := h
theorem Rd.grown {w w' : World} {A : Option Addr} {zs : List Int} {row : Option Nat} (h : Rd w A zs) (hg : w.grownBy w' row) (hne : ∀ a, A = some a → some a.block ≠ row) : Rd w' A zs := by
  intro i hi
  obtain ⟨b, o, hA, hcell⟩ := h i hi
  exact ⟨b, o, hA, hg.cell hcell (fun e => hne _ hA e)⟩

theorem Rd.of_own {w : World} {base n c : Nat} {e : TypeId} {A : Option Addr} {zs : List Int} (h : w.ownsRow base e 1 (.slice A n c) n (ints zs)) : Rd w A zs := by
  intro i hi
  have hn : zs.length = n := by have := h.1; simpa [length_ints] using this
  rcases h.2 with ⟨hv, h0⟩ | ⟨g, cap, cur, hv, hb, hh, _⟩
  · omega
  · simp only [Value.slice.injEq] at hv
    obtain ⟨rfl, _, rfl⟩ := hv
    refine ⟨g, 0, rfl, ?_⟩
    rw [Nat.zero_add, World.ownsRow.cellAt h i (by omega)]
    exact ints_get zs i hi

theorem own_len {w : World} {base n : Nat} {e : TypeId} {v : Value} {zs : List Int} (h : w.ownsRow base e 1 v n (ints zs)) : n = zs.length := by
  have := h.1; simp [length_ints] at this; omega

/-- What is owned stays owned where nothing old turns. -/
theorem own_below {w w' : World} {base size n : Nat} {e : TypeId} {v : Value} {xs : List Value} (h : w.ownsRow base e size v n xs) (hb : Below w.heap.size w w') : w'.ownsRow base e size v n xs := by
  refine ⟨h.1, ?_⟩
  rcases h.2 with h2 | ⟨g, cap, cur, hv, hg, hh, r⟩
  · exact .inl h2
  · refine .inr ⟨g, cap, cur, hv, hg, ?_, r⟩
    rw [hb.block g ?_]; exact hh
    rcases Nat.lt_or_ge g w.heap.size with hlt | hge
    · exact hlt
    · rw [Array.getElem?_eq_none hge] at hh; cases hh

theorem own_base {w : World} {base base' size n : Nat} {e : TypeId} {v : Value} {xs : List Value} (h : w.ownsRow base e size v n xs) (hb : base' ≤ base) : w.ownsRow base' e size v n xs := by
  refine ⟨h.1, ?_⟩
  rcases h.2 with h2 | ⟨g, cap, cur, hv, hg, r⟩
  · exact .inl h2
  · exact .inr ⟨g, cap, cur, hv, Nat.le_trans hb hg, r⟩

theorem below_grown {w w' : World} (h : w.grownBy w' none) : Below w.heap.size w w' := (Below.refl _ _).grown h (Nat.le_refl _) (by intro k hk; cases hk)
theorem grown_below {w w' : World} (row : Option Nat) (h : Below w.heap.size w w') : w.grownBy w' row := ⟨h.os, h.tape, h.output, h.size, fun k hk _ => h.block k hk⟩
theorem grown_trans {a b c : World} {row : Option Nat} (h : a.grownBy b row) (k : b.grownBy c row) : a.grownBy c row :=
  ⟨k.os.trans h.os, k.tape.trans h.tape, k.output.trans h.output, Nat.le_trans h.size k.size, fun i hi hr => (k.block i (Nat.lt_of_lt_of_le hi h.size) hr).trans (h.block i hi hr)⟩
theorem grown_drew {a b : World} {row : Option Nat} (h : a.grownBy b row) : a.grownBy b.drew row := ⟨h.os, h.tape, h.output, h.size, h.block⟩
theorem below_trans {a b c : World} (h : Below a.heap.size a b) (k : Below b.heap.size b c) : Below a.heap.size a c := h.trans (k.mono h.size)
theorem below_alloc (w : World) (o : Obj) : Below w.heap.size w (w.alloc o) := (Below.refl _ _).alloc (Nat.le_refl _) _
theorem size_alloc (w : World) (o : Obj) : (w.alloc o).heap.size = w.heap.size + 1 := World.size_alloc ..
theorem bcell {W w1 : World} (hb : Below W.heap.size W w1) : (∀ b o, b < W.heap.size → w1.cell? ⟨b, o, none⟩ = W.cell? ⟨b, o, none⟩) ∧ (∀ b o, b < W.heap.size → w1.frozen? ⟨b, o, none⟩ = W.frozen? ⟨b, o, none⟩) :=
  ⟨fun b o h => hb.cell (p := ⟨b, o, none⟩) h, fun b o h => hb.frozen (p := ⟨b, o, none⟩) h⟩
theorem below_drewN {a : World} (n : Nat) : Below a.heap.size a (a.drewN n) := by
  induction n with
  | zero => exact Below.refl _ _
  | succ k ih => exact ⟨ih.os, ih.tape, ih.output, ih.size, ih.block⟩

/-- A row of the call's own that is known whole. -/
theorem own_full {w : World} {base g n : Nat} {e : TypeId} {xs : List Value} (h : w.ownsRow base e 1 (.slice (some ⟨g, 0, none⟩) n n) n xs) : w.heap[g]? = some (.cells xs.toArray e (0, 0)) ∧ base ≤ g := by
  rcases h.2 with ⟨h', _⟩ | ⟨g', cap', cur, h', hb, hg, _, _, hcs, htake⟩
  · simp at h'
  · simp only [Value.slice.injEq, Option.some.injEq, Addr.mk.injEq, and_true, true_and] at h'
    obtain ⟨rfl, rfl⟩ := h'
    refine ⟨?_, hb⟩
    rw [List.take_of_length_le (by rw [Array.length_toList]; omega)] at htake
    rw [hg, ← htake]
theorem own_of_full {w : World} {base g n : Nat} {e : TypeId} {xs : List Value} (h : w.heap[g]? = some (.cells xs.toArray e (0, 0))) (hb : base ≤ g) (hn : xs.length = n) (hm : n ≤ maxLen) : w.ownsRow base e 1 (.slice (some ⟨g, 0, none⟩) n n) n xs :=
  ⟨by omega, .inr ⟨g, n, xs.toArray, rfl, hb, h, Nat.le_refl _, hm, by simp; omega, List.take_of_length_le (by simp; omega)⟩⟩
theorem rd_cells {w : World} {A : Option Addr} {zs : List Int} (h : Rd w A zs) (hp : 0 < zs.length) : ∃ ad, A = some ad ∧ ∀ j v, (ints zs)[j]? = some v → w.cell? (ad.add j) = some v := by
  obtain ⟨b, o, rfl, _⟩ := h 0 hp
  refine ⟨_, rfl, fun j v hv => ?_⟩
  have hj : j < zs.length := by have := (List.getElem?_eq_some_iff.1 hv).1; rwa [length_ints] at this
  obtain ⟨b', o', hA, hc⟩ := h j hj
  simp only [Option.some.injEq, Addr.mk.injEq, and_true] at hA
  obtain ⟨rfl, rfl⟩ := hA
  rw [Addr.add_lit, hc, ← hv, ints_get _ _ hj]

/-- A row of zeros, filled from the front. -/
def fillTo (zs : List Int) (k : Nat) : List Int := zs.take k ++ List.replicate (zs.length - k) 0
theorem fillTo_length (zs : List Int) (k : Nat) : (fillTo zs k).length = zs.length := by simp [fillTo]; omega
theorem fillTo_zero (zs : List Int) : fillTo zs 0 = List.replicate zs.length 0 := by simp [fillTo]
theorem fillTo_all (zs : List Int) (k : Nat) (h : zs.length ≤ k) : fillTo zs k = zs := by
  simp [fillTo, List.take_of_length_le h, Nat.sub_eq_zero_of_le h]
theorem fillTo_get (zs : List Int) (k j : Nat) (h : j < zs.length) : (fillTo zs k)[j]? = some (if j < k then zs.getD j 0 else 0) := by
  unfold fillTo
  by_cases hj : j < k
  · rw [List.getElem?_append_left (by simp; omega), List.getElem?_take, if_pos hj, if_pos hj]
    simp [List.getD, h]
  · rw [List.getElem?_append_right (by simp; omega), List.getElem?_replicate, if_neg hj, if_pos (by simp; omega)]
theorem fillTo_set (zs : List Int) (k : Nat) (h : k < zs.length) : (fillTo zs k).set k (zs.getD k 0) = fillTo zs (k + 1) := by
  apply List.ext_getElem?
  intro j
  by_cases hj : j < zs.length
  · rw [fillTo_get _ _ _ hj, List.getElem?_set, fillTo_length, if_pos h]
    by_cases e : k = j
    · subst e; simp
    · rw [if_neg e, fillTo_get _ _ _ hj]
      by_cases hlt : j < k
      · rw [if_pos hlt, if_pos (by omega)]
      · rw [if_neg hlt, if_neg (by omega)]
  · rw [List.getElem?_eq_none (by simp [fillTo_length]; omega), List.getElem?_eq_none (by rw [fillTo_length]; omega)]
theorem ints_set (zs : List Int) (k : Nat) (n : Int) : (ints zs).set k (.int .i64 n) = ints (zs.set k n) := by simp [ints, List.map_set]
theorem made_zero (n : Nat) : (madeCells #[Value.int .i64 0] n).toList = ints (List.replicate n 0) := by
  rw [toList_madeCells_one]
  simp [ints]
end Go.Proofs.Ytabojajhnhcemaa

namespace Go.Proofs.Ytabojajhnhcemaa
open Go.RowKit

theorem Try.own : ownKnob Try.prog.godebug = none := by kernel_rfl
theorem Try.laidOut : laidOutB Try.prog = true := by kernel_rfl
end Go.Proofs.Ytabojajhnhcemaa

namespace Go.Proofs.Ytabojajhnhcemaa
open Go.ChangeShapes Go.WideShapes Go.ChangeAt Go.RowKit Go.Joins
set_option maxRecDepth 100000

section
variable {H : Type} {enc : TypeId × Value → H} {w : World} {base : Nat} {spare : Nat → Bool} {held : Bool}

/-- A slice of ints that reads at its type reads as a list. -/
theorem open_rd {fuel : Nat} {a : Option Addr} {len cap : Nat} {x : DataW H × List MemPlace}
    (hf : DataW.trod enc Try.prog w base (fun _ => true) held fuel 23 [.slice a len cap] = some x) :
    ∃ zs : List Int, zs.length = len ∧ zs.length ≤ maxLen ∧ Rd w a zs ∧ ∀ z ∈ zs, (Lit.int .i64 z).wf = true := by
  rcases open_ints Try.underlying23 Try.underlying3 (by kernel_rfl) hf with ⟨hcs, _⟩ | ⟨y, l, c, zs, hcs, _, hl, hm, hz, _, hcell, hwz⟩
  · simp at hcs
    obtain ⟨rfl, rfl, rfl⟩ := hcs
    exact ⟨[], rfl, by simp, Rd.nil _ _, by simp⟩
  · simp at hcs
    obtain ⟨rfl, rfl, rfl⟩ := hcs
    have hz' : zs.length = cap := by simpa using hz
    have hlen : (zs.take len).length = len := by rw [List.length_take]; omega
    refine ⟨zs.take len, hlen, by omega, ?_, fun z hz => hwz z (List.mem_of_mem_take hz)⟩
    intro i hi
    rw [hlen] at hi
    have hc := hcell i (by omega)
    obtain ⟨b, off, spot⟩ := y
    have hspot : spot = none := by simpa [Addr.add] using World.cell?_spot (hcell 0 (by omega))
    subst hspot
    refine ⟨b, off, rfl, ?_⟩
    rw [Addr.add_lit] at hc
    rw [hc]
    congr 2
    simp [List.getD, hi]

theorem array1 {α : Type} {cs : Array α} (h : cs.size = 1) : ∃ c0, cs = #[c0] := by
  obtain ⟨l⟩ := cs
  match l, h with
  | [c0], _ => exact ⟨c0, rfl⟩

/-- A list of ints among the arguments. -/
theorem open_list {v : Value} {d : DataW H} {p : List MemPlace} {b0 : Nat} (hv : Value.okWide Try.prog w .any b0 23 v)
    (h : DataW.Trod enc Try.prog w base (fun _ => true) held 23 v d p) :
    ∃ (a : Option Addr) (c : Nat) (zs : List Int), v = .slice a zs.length c ∧ zs.length ≤ maxLen ∧ Rd w a zs ∧ ∀ z ∈ zs, (Lit.int .i64 z).wf = true := by
  obtain ⟨a, len, cap, rfl⟩ := okWide_slice Try.underlying23 hv
  obtain ⟨fuel, hf⟩ := h
  obtain ⟨zs, h1, h2, h3, h4⟩ := open_rd (by simpa [Value.cells] using hf)
  exact ⟨a, cap, zs, by rw [h1], h2, h3, h4⟩

/-- An arena among the arguments. -/
theorem open_arena {v : Value} {d : DataW H} {p : List MemPlace} {b0 : Nat} (hv : Value.okWide Try.prog w .any b0 41 v)
    (h : DataW.Trod enc Try.prog w base (fun _ => true) held 41 v d p) :
    ∃ (a : Option Addr) (c : Nat) (zs : List Int), v = .agg #[.slice a zs.length c] ∧ zs.length ≤ maxLen ∧ Rd w a zs ∧ ∀ z ∈ zs, (Lit.int .i64 z).wf = true := by
  obtain ⟨cs, rfl, hsz⟩ := okWide_struct Try.underlying41 hv
  obtain ⟨c0, rfl⟩ := array1 (hsz.trans (by kernel_rfl))
  obtain ⟨fuel, hf⟩ := h
  obtain ⟨y0, n, hx, _, h0⟩ := trod_struct1 Try.underlying41 hf
  have hcf : Try.prog.cellsOf 23 = 1 := by kernel_rfl
  simp only [Value.cells, hcf, List.drop_zero, List.take_succ_cons, List.take_zero] at h0
  obtain ⟨a, l, c, hcs⟩ := slice_form Try.underlying23 h0
  simp only [List.cons.injEq, and_true] at hcs
  subst hcs
  obtain ⟨zs, h1, h2, h3, h4⟩ := open_rd h0
  exact ⟨a, c, zs, by rw [h1], h2, h3, h4⟩
end
end Go.Proofs.Ytabojajhnhcemaa

namespace Go.Proofs.Ytabojajhnhcemaa
open Go.ChangeShapes Go.WideShapes Go.ChangeAt Go.RowKit Go.Joins
set_option maxRecDepth 100000

theorem array15 {α : Type} {cs : Array α} (h : cs.size = 15) : ∃ c0 c1 c2 c3 c4 c5 c6 c7 c8 c9 c10 c11 c12 c13 c14, cs = #[c0, c1, c2, c3, c4, c5, c6, c7, c8, c9, c10, c11, c12, c13, c14] := by
  obtain ⟨l⟩ := cs
  match l, h with
  | [c0, c1, c2, c3, c4, c5, c6, c7, c8, c9, c10, c11, c12, c13, c14], _ => exact ⟨c0, c1, c2, c3, c4, c5, c6, c7, c8, c9, c10, c11, c12, c13, c14, rfl⟩
theorem get_some {α : Type} {l : List α} {i n : Nat} (h : l.length = n) (hi : i < n) : ∃ y, l[i]? = some y := ⟨_, List.getElem?_eq_getElem (by omega)⟩

section
variable {H : Type} {enc : TypeId × Value → H} {w : World} {base : Nat} {spare : Nat → Bool} {held : Bool}

theorem int_cell {fuel : Nat} {c : Value} {x : DataW H × List MemPlace} (h : DataW.trod enc Try.prog w base spare held fuel 3 [c] = some x) : ∃ a, c = .int .i64 a := by
  obtain ⟨a, e, _⟩ := DataW.trod_int Try.underlying3 h
  exact ⟨a, by simpa using e⟩
theorem bool_cell {fuel : Nat} {c : Value} {x : DataW H × List MemPlace} (h : DataW.trod enc Try.prog w base spare held fuel 4 [c] = some x) : ∃ a, c = .bool a := by
  obtain ⟨a, e, _⟩ := DataW.trod_bool Try.underlying4 h
  exact ⟨a, by simpa using e⟩

/-- A thread among the arguments. -/
theorem open_thread {v : Value} {d : DataW H} {p : List MemPlace} {b0 : Nat} (hv : Value.okWide Try.prog w .any b0 42 v)
    (h : DataW.Trod enc Try.prog w base spare held 42 v d p) :
    ∃ (id st op arg pc til : Int) (per can : Bool) (r0 r1 r2 r3 r4 code res : Int), v = .agg #[.int .i64 id, .int .i64 st, .int .i64 op, .int .i64 arg, .int .i64 pc, .int .i64 til, .bool per, .bool can, .int .i64 r0, .int .i64 r1, .int .i64 r2, .int .i64 r3, .int .i64 r4, .int .i64 code, .int .i64 res] := by
  obtain ⟨cs, rfl, hsz⟩ := okWide_struct Try.underlying42 hv
  obtain ⟨c0, c1, c2, c3, c4, c5, c6, c7, c8, c9, c10, c11, c12, c13, c14, rfl⟩ := array15 (hsz.trans (by kernel_rfl))
  obtain ⟨fuel, hf⟩ := h
  obtain ⟨xs, n, _, _, _, hlen, hi⟩ := DataW.trod_struct Try.underlying42 hf
  have hlen' : xs.length = 11 := hlen
  have h3 : Try.prog.cellsOf 3 = 1 := by kernel_rfl
  have h4 : Try.prog.cellsOf 4 = 1 := by kernel_rfl
  have h5 : Try.prog.cellsOf 27 = 5 := by kernel_rfl
  obtain ⟨x0, rfl⟩ : ∃ a, c0 = .int .i64 a := by
    obtain ⟨y, hy⟩ := get_some hlen' (show 0 < 11 by decide)
    have f := hi 0 _ rfl
    rw [hy] at f
    exact int_cell (by simpa [Value.cells, h3] using f)
  obtain ⟨x1, rfl⟩ : ∃ a, c1 = .int .i64 a := by
    obtain ⟨y, hy⟩ := get_some hlen' (show 1 < 11 by decide)
    have f := hi 1 _ rfl
    rw [hy] at f
    exact int_cell (by simpa [Value.cells, h3] using f)
  obtain ⟨x2, rfl⟩ : ∃ a, c2 = .int .i64 a := by
    obtain ⟨y, hy⟩ := get_some hlen' (show 2 < 11 by decide)
    have f := hi 2 _ rfl
    rw [hy] at f
    exact int_cell (by simpa [Value.cells, h3] using f)
  obtain ⟨x3, rfl⟩ : ∃ a, c3 = .int .i64 a := by
    obtain ⟨y, hy⟩ := get_some hlen' (show 3 < 11 by decide)
    have f := hi 3 _ rfl
    rw [hy] at f
    exact int_cell (by simpa [Value.cells, h3] using f)
  obtain ⟨x4, rfl⟩ : ∃ a, c4 = .int .i64 a := by
    obtain ⟨y, hy⟩ := get_some hlen' (show 4 < 11 by decide)
    have f := hi 4 _ rfl
    rw [hy] at f
    exact int_cell (by simpa [Value.cells, h3] using f)
  obtain ⟨x5, rfl⟩ : ∃ a, c5 = .int .i64 a := by
    obtain ⟨y, hy⟩ := get_some hlen' (show 5 < 11 by decide)
    have f := hi 5 _ rfl
    rw [hy] at f
    exact int_cell (by simpa [Value.cells, h3] using f)
  obtain ⟨x6, rfl⟩ : ∃ a, c6 = .bool a := by
    obtain ⟨y, hy⟩ := get_some hlen' (show 6 < 11 by decide)
    have f := hi 6 _ rfl
    rw [hy] at f
    exact bool_cell (by simpa [Value.cells, h4] using f)
  obtain ⟨x7, rfl⟩ : ∃ a, c7 = .bool a := by
    obtain ⟨y, hy⟩ := get_some hlen' (show 7 < 11 by decide)
    have f := hi 7 _ rfl
    rw [hy] at f
    exact bool_cell (by simpa [Value.cells, h4] using f)
  obtain ⟨x13, rfl⟩ : ∃ a, c13 = .int .i64 a := by
    obtain ⟨y, hy⟩ := get_some hlen' (show 9 < 11 by decide)
    have f := hi 9 _ rfl
    rw [hy] at f
    exact int_cell (by simpa [Value.cells, h3] using f)
  obtain ⟨x14, rfl⟩ : ∃ a, c14 = .int .i64 a := by
    obtain ⟨y, hy⟩ := get_some hlen' (show 10 < 11 by decide)
    have f := hi 10 _ rfl
    rw [hy] at f
    exact int_cell (by simpa [Value.cells, h3] using f)
  obtain ⟨y, hy⟩ := get_some hlen' (show 8 < 11 by decide)
  have f8 := hi 8 _ rfl
  rw [hy] at f8
  obtain ⟨ys, m, _, _, _, hm, hj⟩ := DataW.trod_array Try.underlying27 f8
  obtain ⟨x8, rfl⟩ : ∃ a, c8 = .int .i64 a := by
    obtain ⟨z, hz⟩ := get_some hm (show 0 < 5 by decide)
    have f := hj 0 (by decide)
    rw [hz] at f
    exact int_cell (by simpa [Value.cells, h3, h5] using f)
  obtain ⟨x9, rfl⟩ : ∃ a, c9 = .int .i64 a := by
    obtain ⟨z, hz⟩ := get_some hm (show 1 < 5 by decide)
    have f := hj 1 (by decide)
    rw [hz] at f
    exact int_cell (by simpa [Value.cells, h3, h5] using f)
  obtain ⟨x10, rfl⟩ : ∃ a, c10 = .int .i64 a := by
    obtain ⟨z, hz⟩ := get_some hm (show 2 < 5 by decide)
    have f := hj 2 (by decide)
    rw [hz] at f
    exact int_cell (by simpa [Value.cells, h3, h5] using f)
  obtain ⟨x11, rfl⟩ : ∃ a, c11 = .int .i64 a := by
    obtain ⟨z, hz⟩ := get_some hm (show 3 < 5 by decide)
    have f := hj 3 (by decide)
    rw [hz] at f
    exact int_cell (by simpa [Value.cells, h3, h5] using f)
  obtain ⟨x12, rfl⟩ : ∃ a, c12 = .int .i64 a := by
    obtain ⟨z, hz⟩ := get_some hm (show 4 < 5 by decide)
    have f := hj 4 (by decide)
    rw [hz] at f
    exact int_cell (by simpa [Value.cells, h3, h5] using f)
  exact ⟨x0, x1, x2, x3, x4, x5, x6, x7, x8, x9, x10, x11, x12, x13, x14, rfl⟩
end
end Go.Proofs.Ytabojajhnhcemaa

namespace Go.Proofs.Ytabojajhnhcemaa
open Go.RowKit

/-- No operation is guarded, and each waits for earlier ones alone. -/
def backward (ops : Array Oper) : Bool :=
  (List.range ops.size).all fun i => ((ops[i]?).map fun o => o.guard.isNone && o.after.all fun e => !Region.binds .any e || decide (e.on < i)).getD true
theorem backward_at {ops : Array Oper} (h : backward ops = true) {i : Nat} {o : Oper} (ho : ops[i]? = some o) : o.guard = none ∧ ∀ e ∈ o.after, Region.binds .any e = false ∨ e.on < i := by
  have hi : i < ops.size := (Array.getElem?_eq_some_iff.1 ho).1
  have := List.all_eq_true.1 h i (List.mem_range.2 hi)
  simp only [ho, Option.map_some, Option.getD_some, Bool.and_eq_true, Option.isNone_iff_eq_none, Array.all_eq_true_iff_forall_mem, Bool.or_eq_true, Bool.not_eq_true', decide_eq_true_eq] at this
  exact this
theorem ready_mem {md : Region.Mode} {ops : Array Oper} {l : Array Bool} {i : Nat} (h : i ∈ Region.ready md ops l) :
    ∃ o, ops[i]? = some o ∧ l.getD i true = false ∧ ∀ e ∈ o.after, Region.binds md e = true → l.getD e.on false = true := by
  unfold Region.ready at h
  rw [List.mem_filter, List.mem_range] at h
  obtain ⟨hi, h⟩ := h
  have ho : ops[i]? = some ops[i] := Array.getElem?_eq_getElem hi
  rw [ho] at h
  simp only [Option.map_some, Option.getD_some, Bool.and_eq_true, Bool.not_eq_true', Array.all_eq_true_iff_forall_mem, Bool.or_eq_true] at h
  refine ⟨_, ho, h.1, fun e he hb => ?_⟩
  rcases h.2 e he with h2 | h2
  · rw [hb] at h2; cases h2
  · exact h2
theorem getD_flip {l : Array Bool} {i : Nat} (h : i < l.size) : l.getD i true = l.getD i false := by
  simp [h]
theorem ready_nil {ops : Array Oper} {l : Array Bool} (hb : backward ops = true) (hs : l.size = ops.size) (h : Region.ready .any ops l = []) : ∀ i, i < ops.size → l.getD i false = true := by
  intro i
  induction i using Nat.strongRecOn with
  | ind i ih =>
    intro hi
    cases hl : l.getD i false with
    | true => rfl
    | false =>
      exfalso
      have ho : ops[i]? = some ops[i] := Array.getElem?_eq_getElem hi
      have : i ∈ Region.ready .any ops l := by
        unfold Region.ready
        rw [List.mem_filter, List.mem_range]
        refine ⟨hi, ?_⟩
        rw [ho, getD_flip (by omega), hl]
        simp only [Option.map_some, Option.getD_some, Bool.and_eq_true, Bool.not_false, Array.all_eq_true_iff_forall_mem, Bool.or_eq_true, true_and]
        intro e he
        rcases (backward_at hb ho).2 e he with hbd | hlt
        · exact .inl (by rw [hbd]; rfl)
        · exact .inr (ih e.on hlt (by omega))
      rw [h] at this
      cases this

theorem wpAny_inv {P : Program} {ops : Array Oper} {Q : Exit → Act → World → Prop} (hb : backward ops = true) (I : (Nat → Prop) → Act → World → Prop)
    (hstep : ∀ (D : Nat → Prop) (a : Act) (w : World) (i : Nat) (o : Oper), I D a w → ops[i]? = some o → ¬ D i → (∀ e ∈ o.after, Region.binds .any e = true → D e.on) →
      (∀ j o', ops[j]? = some o' → D j → ∀ e ∈ o'.after, Region.binds .any e = true → D e.on) → o.wp P a w (I (fun k => k = i ∨ D k)) Q)
    (hfin : ∀ (D : Nat → Prop) (a : Act) (w : World), I D a w → (∀ i, i < ops.size → D i) → Q .normal a w) :
    ∀ (n : Nat) (l : Array Bool) (a : Act) (w : World), l.size = ops.size → l.countP (fun b => !b) ≤ n →
      (∀ j o', ops[j]? = some o' → l.getD j false = true → ∀ e ∈ o'.after, Region.binds .any e = true → l.getD e.on false = true) →
      I (fun k => l.getD k false = true) a w → wpAny P .any ops Q n l a w := by
  intro n
  induction n with
  | zero =>
    intro l a w hs hc _ hI
    have hall : ∀ i, i < ops.size → l.getD i false = true := by
      intro i hi
      have h0 : l.countP (fun b => !b) = 0 := by omega
      rw [Array.countP_eq_zero] at h0
      have hi' : i < l.size := by omega
      have := h0 l[i] (Array.getElem_mem hi')
      simp at this
      simp [hi', this]
    refine ⟨?_, hfin _ _ _ hI hall⟩
    rw [List.eq_nil_iff_forall_not_mem]
    intro i hi
    obtain ⟨o, ho, hf, _⟩ := ready_mem hi
    have hi' : i < ops.size := (Array.getElem?_eq_some_iff.1 ho).1
    rw [getD_flip (by omega), hall i hi'] at hf
    cases hf
  | succ n ih =>
    intro l a w hs hc hcl hI
    refine ⟨fun h => hfin _ _ _ hI (ready_nil hb hs h), fun i hi => ?_⟩
    obtain ⟨o, ho, hf, hdep⟩ := ready_mem hi
    have hi' : i < ops.size := (Array.getElem?_eq_some_iff.1 ho).1
    rw [getD_flip (by omega)] at hf
    have hl : i < l.size := by omega
    unfold wpOp
    simp only [ho]
    have hw : Region.wanted o (yielded ops a.tmps) = true := by unfold Region.wanted; rw [(backward_at hb ho).1]
    rw [if_pos hw]
    left
    have hset : (fun k => (l.setIfInBounds i true).getD k false = true) = (fun k => k = i ∨ l.getD k false = true) := by
      funext k
      apply propext
      by_cases hk : k = i
      · subst hk
        simp [hl]
      · have : (l.setIfInBounds i true)[k]? = l[k]? := by
          rw [Array.getElem?_setIfInBounds]
          rw [if_neg (fun e => hk e.symm)]
        simp [Array.getD_eq_getD_getElem?, this, hk]
    refine Oper.wp_mono ?_ (hstep _ a w i o hI ho (by simp only [hf]; simp) hdep hcl)
    intro a' w' hI'
    refine ih _ a' w' (by simp [hs]) ?_ ?_ (by rw [hset]; exact hI')
    · have h1 : l[i] = false := by simpa [hl] using hf
      have := Array.countP_set (p := fun b => !b) (xs := l) (i := i) (a := true) hl
      rw [h1] at this
      have hp : 0 < l.countP (fun b => !b) := by
        rw [Array.countP_pos_iff]
        exact ⟨l[i], Array.getElem_mem hl, by simp [h1]⟩
      have he : l.setIfInBounds i true = l.set i true hl := by simp [Array.setIfInBounds, hl]
      rw [he, this]
      simp
      omega
    · intro j o' hj hd e he hbd
      have hset' : ∀ k, ((l.setIfInBounds i true).getD k false = true) = (k = i ∨ l.getD k false = true) := fun k => congrFun hset k
      rw [hset'] at hd ⊢
      rcases hd with rfl | hd
      · rw [ho] at hj
        injection hj with hj
        subst hj
        exact .inr (hdep e he hbd)
      · exact .inr (hcl j o' hj hd e he hbd)

/-- The operations' cases, one behind the other. -/
def Steps (P : Program) (Q : Exit → Act → World → Prop) (ops : Array Oper) (I : (Nat → Prop) → Act → World → Prop) : Nat → List Oper → Prop
  | _, [] => True
  | i, o :: r => (∀ (D : Nat → Prop) (a : Act) (w : World), I D a w → ¬ D i → (∀ e ∈ o.after, Region.binds .any e = true → D e.on) →
      (∀ j o', ops[j]? = some o' → D j → ∀ e ∈ o'.after, Region.binds .any e = true → D e.on) → o.wp P a w (I (fun k => k = i ∨ D k)) Q) ∧ Steps P Q ops I (i + 1) r
theorem Steps.at {P : Program} {Q : Exit → Act → World → Prop} {ops : Array Oper} {I : (Nat → Prop) → Act → World → Prop} : ∀ {l : List Oper} {n : Nat}, Steps P Q ops I n l → ∀ {i : Nat} {o : Oper}, l[i]? = some o →
    ∀ (D : Nat → Prop) (a : Act) (w : World), I D a w → ¬ D (n + i) → (∀ e ∈ o.after, Region.binds .any e = true → D e.on) →
      (∀ j o', ops[j]? = some o' → D j → ∀ e ∈ o'.after, Region.binds .any e = true → D e.on) → o.wp P a w (I (fun k => k = n + i ∨ D k)) Q
  | [], _, _, _, _, h => by simp at h
  | x :: r, n, hs, 0, o, h => by
    simp only [List.getElem?_cons_zero, Option.some.injEq] at h
    subst h
    exact hs.1
  | x :: r, n, hs, i + 1, o, h => by
    have := Steps.at hs.2 (i := i) (o := o) (by simpa using h)
    rw [show n + 1 + i = n + (i + 1) by omega] at this
    exact this
theorem wp_region_inv {P : Program} {ops : Array Oper} {Q : Exit → Act → World → Prop} {id : Nat} {a : Act} {w : World} (I : (Nat → Prop) → Act → World → Prop) (hm : P.follows .mixedOrders = true) (hb : backward ops = true)
    (h0 : I (fun _ => False) a w.drew) (hstep : Steps P Q ops I 0 ops.toList)
    (hfin : ∀ (D : Nat → Prop) (a : Act) (w : World), I D a w → (∀ i, i < ops.size → D i) → Q .normal a w) : (Code.region id ops true).wp P Q a w := by
  refine wp_region_any hm ?_
  have hz : (fun k => (Array.replicate ops.size false).getD k false = true) = (fun _ => False) := by
    funext k
    by_cases hk : k < ops.size <;> simp [Array.getD_eq_getD_getElem?, hk]
  refine wpAny_inv hb I ?_ hfin ops.size _ a _ (by simp) ?_ ?_ (by rw [hz]; exact h0)
  · intro D a w i o hI ho hD hdep hcl
    have := Steps.at hstep (i := i) (o := o) (by simpa using ho) D a w hI (by simpa using hD) hdep hcl
    simpa using this
  · exact Nat.le_trans Array.countP_le_size (by simp)
  · intro j o' _ hj
    exact absurd (congrFun hz j ▸ hj) (by simp)

/-- A frame that is another but for some slots. -/
structure Agree (a0 a : Act) (ds : List Nat) : Prop where
  size : a.tmps.size = a0.tmps.size
  defers : a.defers = a0.defers
  same : ∀ k, k ∉ ds → a.tmps[k]? = a0.tmps[k]?
theorem Agree.refl (a : Act) (ds : List Nat) : Agree a a ds := ⟨rfl, rfl, fun _ _ => rfl⟩
theorem Agree.put {a0 a : Act} {ds : List Nat} (h : Agree a0 a ds) {s : Nat} (hs : s ∈ ds) (v : Value) : Agree a0 (a.put (some s) v) ds := by
  refine ⟨by simp [Act.put, h.size], h.defers, fun k hk => ?_⟩
  simp only [Act.put]
  rw [Array.getElem?_setIfInBounds, if_neg (show ¬ s = k from fun e => hk (e ▸ hs))]
  exact h.same k hk
theorem Agree.eval {a0 a : Act} {ds : List Nat} (h : Agree a0 a ds) {k : Nat} (hk : k ∉ ds) : a.eval (.tmp k) = a0.eval (.tmp k) := by
  simp [Act.eval, Array.getD_eq_getD_getElem?, h.same k hk]
theorem eval_put_ne (a : Act) {s k : Nat} (v : Value) (h : s ≠ k) : (a.put (some s) v).eval (.tmp k) = a.eval (.tmp k) := by
  simp [Act.put, Act.eval, Array.getD_eq_getD_getElem?, h]
theorem eval_put_same (a : Act) {s : Nat} (v : Value) (h : s < a.tmps.size) : (a.put (some s) v).eval (.tmp s) = v := by
  simp [Act.put, Act.eval, h]
theorem Agree.fold {a : Act} : ∀ (ds : List Nat) (b : Act), b.tmps.size = a.tmps.size → ∀ k, (ds.foldl (fun b d => b.put (some d) (a.eval (.tmp d))) b).tmps[k]? = if k ∈ ds then a.tmps[k]? else b.tmps[k]?
  | [], b, _, k => by simp
  | d :: ds, b, hb, k => by
    rw [List.foldl_cons, Agree.fold ds _ (by simp [Act.put, hb]) k]
    by_cases hk : k ∈ ds
    · simp [hk]
    · rw [if_neg hk]
      by_cases hd : k = d
      · subst hd
        rw [if_pos (by simp)]
        simp only [Act.put, Act.eval, Array.getElem?_setIfInBounds, Array.getD_eq_getD_getElem?, hb]
        by_cases hs : k < a.tmps.size
        · simp [hs]
        · simp [hs]
      · rw [if_neg (by simp [hk, hd])]
        simp only [Act.put]
        rw [Array.getElem?_setIfInBounds, if_neg (fun e => hd e.symm)]
theorem foldl_defers {a : Act} : ∀ (ds : List Nat) (b : Act), (ds.foldl (fun b d => b.put (some d) (a.eval (.tmp d))) b).defers = b.defers
  | [], _ => rfl
  | d :: ds, b => by rw [List.foldl_cons, foldl_defers ds]; rfl
theorem Agree.eq {a0 a : Act} {ds : List Nat} (h : Agree a0 a ds) : a = ds.foldl (fun b d => b.put (some d) (a.eval (.tmp d))) a0 := by
  have h1 : a.tmps = (ds.foldl (fun b d => b.put (some d) (a.eval (.tmp d))) a0).tmps := by
    apply Array.ext_getElem?
    intro k
    rw [Agree.fold ds a0 h.size.symm k]
    by_cases hk : k ∈ ds
    · rw [if_pos hk]
    · rw [if_neg hk, h.same k hk]
  have h2 : a.defers = (ds.foldl (fun b d => b.put (some d) (a.eval (.tmp d))) a0).defers := by rw [foldl_defers, h.defers]
  generalize ds.foldl (fun b d => b.put (some d) (a.eval (.tmp d))) a0 = b at h1 h2
  cases a
  cases b
  cases h1
  cases h2
  rfl

theorem wp_call_fn {P : Program} {o : Oper} {a : Act} {w : World} {K : Act → World → Prop} {Q : Exit → Act → World → Prop} {f : FuncId} {vs : Array Value} (hc : (execOp a.eval o).run P w = .ok (.enter f vs) w)
    (h : Calls P f vs w fun e w' => ∃ v, e = .returned v ∧ K (a.put o.dst v) w') : o.wp P a w K Q := by
  unfold Oper.wp
  rw [hc, Oper.upon_enter]
  refine h.mono ?_
  rintro e w' ⟨v, rfl, hk⟩
  exact hk
theorem wp_yield {P : Program} {o : Oper} {a : Act} {w : World} {K : Act → World → Prop} {Q : Exit → Act → World → Prop} {v : Value} {w' : World} (hc : (execOp a.eval o).run P w = .ok (.value v) w')
    (h : K (a.put o.dst v) w') : o.wp P a w K Q := by
  unfold Oper.wp
  rw [hc, Oper.upon_value]
  exact h
theorem eval_get {a : Act} {k : Nat} {v : Value} (h : a.eval (.tmp k) = v) : a.tmps[k]?.getD undef = v := by
  rw [← Array.getD_eq_getD_getElem?]
  exact h
/-- What stays of a slot's value behind another operation. -/
theorem slot_keep {a : Act} {s k i j : Nat} {v u : Value} {D : Nat → Prop} (h : D j → a.eval (.tmp k) = u) (hs : s ≠ k) (hj : j ≠ i) : (j = i ∨ D j) → (a.put (some s) v).eval (.tmp k) = u := fun hd => by
  rw [eval_put_ne a v hs]
  exact h (hd.resolve_left hj)
theorem Steps.cons {P : Program} {Q : Exit → Act → World → Prop} {ops : Array Oper} {I : (Nat → Prop) → Act → World → Prop} {i j : Nat} {o : Oper} {r : List Oper} (hj : j = i + 1)
    (h : ∀ (D : Nat → Prop) (a : Act) (w : World), I D a w → ¬ D i → (∀ e ∈ o.after, Region.binds .any e = true → D e.on) →
      (∀ j o', ops[j]? = some o' → D j → ∀ e ∈ o'.after, Region.binds .any e = true → D e.on) → o.wp P a w (I (fun k => k = i ∨ D k)) Q) (hr : Steps P Q ops I j r) : Steps P Q ops I i (o :: r) := by
  subst hj
  exact ⟨h, hr⟩
theorem Steps.nil {P : Program} {Q : Exit → Act → World → Prop} {ops : Array Oper} {I : (Nat → Prop) → Act → World → Prop} {i : Nat} : Steps P Q ops I i [] := trivial
/-- The region, and what follows it, once. -/
theorem region_cut {P : Program} {ops : Array Oper} {K : Act → World → Prop} {Q : Exit → Act → World → Prop} {id : Nat} {a : Act} {w : World} (I : Act → (Nat → Prop) → Act → World → Prop) (R : Act → Act → World → Prop) (hm : P.follows .mixedOrders = true) (hb : backward ops = true)
    (h0 : I a (fun _ => False) a w.drew) (hstep : ∀ K' : Act → World → Prop, Steps P (Exit.then K' Q) ops (I a) 0 ops.toList)
    (hfin : ∀ (D : Nat → Prop) (a' : Act) (w' : World), I a D a' w' → (∀ i, i < ops.size → D i) → R a a' w') (rest : ∀ a' w', R a a' w' → K a' w') : (Code.region id ops true).wp P (Exit.then K Q) a w :=
  wp_region_inv (I a) hm hb h0 (hstep K) fun D a' w' hI hD => rest a' w' (hfin D a' w' hI hD)
theorem dep_of {D : Nat → Prop} {l : Array Edge} (j : Nat) (hx : (l.toList.any fun e => e.on == j && Region.binds .any e) = true) (h : ∀ e ∈ l, Region.binds .any e = true → D e.on) : D j := by
  rw [List.any_eq_true] at hx
  obtain ⟨e, he, h2⟩ := hx
  rw [Bool.and_eq_true, beq_iff_eq] at h2
  exact h2.1 ▸ h e (by simpa using he) h2.2
theorem Agree.lt {a0 a : Act} {ds : List Nat} (h : Agree a0 a ds) {s : Nat} (hs : Nat.ble (s + 1) a0.tmps.size = true) : s < a.tmps.size := by
  rw [h.size]
  exact Nat.le_of_ble_eq_true hs
end Go.Proofs.Ytabojajhnhcemaa

namespace Go.Proofs.Ytabojajhnhcemaa
open Go.RowKit

def inB (n lo hi : Int) : Bool := decide (lo ≤ n) && decide (n ≤ hi)
theorem inB_true {n lo hi : Int} (h : inB n lo hi = true) : lo ≤ n ∧ n ≤ hi := by simpa [inB] using h
theorem inB_false {n lo hi : Int} (h : inB n lo hi = false) : ¬ (lo ≤ n ∧ n ≤ hi) := by simp [inB] at h; omega
theorem inB_iff {n lo hi : Int} : inB n lo hi = true ↔ lo ≤ n ∧ n ≤ hi := by simp [inB]
def wordB (v : Int) : Bool := inB v (-1000000000) 1000000000
theorem wordB_iff (v : Int) : wordB v = true ↔ -1000000000 ≤ v ∧ v ≤ 1000000000 := by simp [wordB, inB]
def wordsB (zs : List Int) : Bool := zs.all wordB
theorem wordsB_iff (zs : List Int) : wordsB zs = true ↔ ∀ j, j < zs.length → wordB (zs.getD j 0) = true := by
  unfold wordsB
  rw [List.all_eq_true]
  constructor
  · intro h j hj
    simp only [List.getD, List.getElem?_eq_getElem hj, Option.getD_some]
    exact h _ (List.getElem_mem _)
  · intro h x hx
    obtain ⟨j, hj, rfl⟩ := List.getElem_of_mem hx
    have := h j hj
    simpa only [List.getD, List.getElem?_eq_getElem hj, Option.getD_some] using this
theorem wordsB_false {zs : List Int} {k : Nat} (h : k < zs.length) (hk : wordB (zs.getD k 0) = false) : wordsB zs = false := by
  cases hw : wordsB zs
  · rfl
  · rw [(wordsB_iff zs).1 hw k h] at hk; cases hk

theorem cell_keep {w w' : World} (hb : Below w.heap.size w w') {a : Addr} {v : Value} (h : w.cell? a = some v) : w'.cell? a = some v :=
  (hb.cell (p := a) (block_lt_of_cell h)).trans h

theorem below_alloc2 (w : World) (a b : Obj) : Below w.heap.size w ((w.alloc a).alloc b) := below_trans (below_alloc _ _) (below_alloc _ _)
theorem below_alloc3 (w : World) (a b c : Obj) : Below w.heap.size w (((w.alloc a).alloc b).alloc c) := below_trans (below_alloc2 _ _ _) (below_alloc _ _)

theorem below_drew_trans {w w' : World} (h : Below w.drew.heap.size w.drew w') : Below w.heap.size w w' := ⟨h.os, h.tape, h.output, h.size, h.block⟩
theorem grown_new {w a b : World} {row row' : Option Nat} (h : w.grownBy a row) (k : a.grownBy b row') (hr : ∀ q, row' = some q → w.heap.size ≤ q) : w.grownBy b row :=
  ⟨k.os.trans h.os, k.tape.trans h.tape, k.output.trans h.output, Nat.le_trans h.size k.size, fun i hi hne => (k.block i (Nat.lt_of_lt_of_le hi h.size) (fun e => by have := hr i e.symm; omega)).trans (h.block i hi hne)⟩
end Go.Proofs.Ytabojajhnhcemaa

namespace Go.Proofs.Ytabojajhnhcemaa
open Go.RowKit

set_option maxHeartbeats 400000 in
theorem wordOK_any (n : Int) (w : World) : Calls Try.prog 84 #[.int .i64 n] w fun e w' => e = .returned (.bool (wordB n)) ∧ w = w' := by
  unfold wordB inB
  by_cases h1 : -1000000000 ≤ n <;> by_cases h2 : n ≤ 1000000000
  all_goals
    go_enter Try.func84, Try.ntmps84
    go_wp2
    go_ret
    exact ⟨by simp [h1, h2], rfl⟩

set_option maxHeartbeats 1000000 in
theorem wordsOK_any (A : Option Addr) (c : Nat) (zs : List Int) (w : World) (hn : zs.length ≤ 1048576) (hA : Rd w A zs) :
    Calls Try.prog 38 #[.slice A zs.length c] w fun e w' => e = .returned (.bool (wordsB zs)) ∧ w = w' := by
  have HA := Lib.hid hA; clear hA
  go_enter Try.func38, Try.ntmps38
  go_wp2
  go_loop [7] (fun i => ∃ k : Nat, k ≤ zs.length ∧ i = .int .i64 k ∧ ∀ j, j < k → wordB (zs.getD j 0) = true) (fun i => zs.length - (intOf i).toNat)
  case atStart => exact ⟨0, Nat.zero_le _, rfl, fun j hj => absurd hj (by omega)⟩
  case round =>
    obtain ⟨k, hk, rfl, hall⟩ := hrel
    have HL := Lib.hid hall; clear hall
    by_cases hlt : k < zs.length
    · obtain ⟨b, o, rfl, hcell⟩ := HA.out k hlt
      generalize hx : zs.getD k 0 = x at *
      have HX := Lib.hid hx; clear hx
      cases hw : wordB x
      · have HN := Lib.hid (wordsB_false hlt (by rw [HX.out]; exact hw))
        go_wp2_with (go_at_call 84; refine (wordOK_any _ _).mono ?_; rintro e w' ⟨rfl, rfl⟩)
        go_ret
        exact ⟨ret_bool HN.out.symm, rfl⟩
      · go_wp2_with (go_at_call 84; refine (wordOK_any _ _).mono ?_; rintro e w' ⟨rfl, rfl⟩)
        go_round
        case rel => exact ⟨k + 1, by omega, by go_num, fun j hj => by
          by_cases e : j < k
          · exact HL.out j e
          · obtain rfl : j = k := by omega
            rw [HX.out]; exact hw⟩
        case measure => simp [intOf]; omega
    · have HN := Lib.hid ((wordsB_iff zs).2 fun j hj => HL.out j (by omega))
      go_wp2
      go_ret
      exact ⟨ret_bool HN.out.symm, rfl⟩
end Go.Proofs.Ytabojajhnhcemaa

namespace Go.Proofs.Ytabojajhnhcemaa
open Go.RowKit

set_option maxHeartbeats 400000 in
theorem l01In_any (n lo hi : Int) (w : World) : Calls Try.prog 52 #[.int .i64 n, .int .i64 lo, .int .i64 hi] w fun e w' => e = .returned (.bool (inB n lo hi)) ∧ w = w' := by
  unfold inB
  by_cases h1 : lo ≤ n <;> by_cases h2 : n ≤ hi
  all_goals
    go_enter Try.func52, Try.ntmps52
    go_wp2
    go_ret
    exact ⟨by simp [h1, h2], rfl⟩
end Go.Proofs.Ytabojajhnhcemaa

namespace Go.Proofs.Ytabojajhnhcemaa
open Go.RowKit

def opB (op : Int) : Bool := inB op 1 6
def waitB (op : Int) : Bool := inB op 1 3
def bringsB (op : Int) : Bool := op == 1 || op == 3 || op == 4
def argB (op arg : Int) : Bool := inB arg 0 (if bringsB op = true then 999 else 0)
def tilB (op til : Int) : Bool := inB til 0 (if waitB op = true then 1000000 else 0)
def regsB (r0 r1 r2 r3 r4 : Int) : Bool := wordB r0 && wordB r1 && wordB r2 && wordB r3 && wordB r4
def zeroB (r0 r1 r2 r3 r4 : Int) : Bool := r0 == 0 && r1 == 0 && r2 == 0 && r3 == 0 && r4 == 0
/-- What an idle thread has besides its Id. -/
def bareB (op arg pc til : Int) (per can : Bool) (r0 r1 r2 r3 r4 : Int) : Bool := op == 0 && arg == 0 && pc == 0 && til == 0 && per == false && can == false && zeroB r0 r1 r2 r3 r4
def idleB (op arg pc til : Int) (per can : Bool) (r0 r1 r2 r3 r4 code res : Int) : Bool := bareB op arg pc til per can r0 r1 r2 r3 r4 && inB code 0 19 && inB res 0 1000000000
def callB (op arg pc til r0 r1 r2 r3 r4 code res : Int) : Bool := opB op && argB op arg && tilB op til && inB pc 0 16 && regsB r0 r1 r2 r3 r4 && code == 0 && res == 0
/-- A thread that is right. -/
def thB (id st op arg pc til : Int) (per can : Bool) (r0 r1 r2 r3 r4 code res : Int) : Bool :=
  inB id 0 3 && (if st = 0 then idleB op arg pc til per can r0 r1 r2 r3 r4 code res else if st = 1 then callB op arg pc til r0 r1 r2 r3 r4 code res else if st = 2 then callB op arg pc til r0 r1 r2 r3 r4 code res && waitB op else false)

theorem opB_iff (op : Int) : opB op = true ↔ 1 ≤ op ∧ op ≤ 6 := inB_iff
theorem waitB_iff (op : Int) : waitB op = true ↔ 1 ≤ op ∧ op ≤ 3 := inB_iff
theorem bringsB_iff (op : Int) : bringsB op = true ↔ op = 1 ∨ op = 3 ∨ op = 4 := by simp [bringsB, or_assoc]

set_option maxHeartbeats 400000 in
theorem idOK_any (n : Int) (w : World) : Calls Try.prog 34 #[.int .i64 n] w fun e w' => e = .returned (.bool (inB n 0 3)) ∧ w = w' := by
  by_cases h1 : 0 ≤ n <;> by_cases h2 : n < 4
  all_goals
    go_enter Try.func34, Try.ntmps34
    go_wp2
    go_ret
    exact ⟨ret_bool (by simp [inB]; omega), rfl⟩

set_option maxHeartbeats 400000 in
theorem opOK_any (n : Int) (w : World) : Calls Try.prog 80 #[.int .i64 n] w fun e w' => e = .returned (.bool (opB n)) ∧ w = w' := by
  by_cases h1 : 1 ≤ n <;> by_cases h2 : n ≤ 6
  all_goals
    go_enter Try.func80, Try.ntmps80
    go_wp2
    go_ret
    exact ⟨ret_bool (by simp [opB, inB]; omega), rfl⟩

set_option maxHeartbeats 400000 in
theorem codeOK_any (n : Int) (w : World) : Calls Try.prog 79 #[.int .i64 n] w fun e w' => e = .returned (.bool (inB n 0 19)) ∧ w = w' := by
  by_cases h1 : 0 ≤ n <;> by_cases h2 : n < 20
  all_goals
    go_enter Try.func79, Try.ntmps79
    go_wp2
    go_ret
    exact ⟨ret_bool (by simp [inB]; omega), rfl⟩

set_option maxHeartbeats 400000 in
theorem implIsWaiting_any (n : Int) (w : World) : Calls Try.prog 83 #[.int .i64 n] w fun e w' => e = .returned (.bool (waitB n)) ∧ w = w' := by
  by_cases h1 : n = 1
  · subst h1
    go_enter Try.func83, Try.ntmps83
    go_wp2
    go_ret
    exact ⟨ret_bool (by decide), rfl⟩
  by_cases h2 : n = 2
  · subst h2
    clear h1
    go_enter Try.func83, Try.ntmps83
    go_wp2
    go_ret
    exact ⟨ret_bool (by decide), rfl⟩
  have HV : Hid (waitB n = (n == 3)) := by
    unfold Hid
    rw [Bool.eq_iff_iff, waitB_iff]; simp; omega
  have g1 : (n == 1) = false := by simpa using h1
  have g2 : (n == 2) = false := by simpa using h2
  clear h1 h2
  go_enter Try.func83, Try.ntmps83
  go_wp2
  go_ret
  exact ⟨ret_bool HV.out.symm, rfl⟩

set_option maxHeartbeats 1000000 in
theorem argOK_any (op arg : Int) (w : World) : Calls Try.prog 81 #[.int .i64 op, .int .i64 arg] w fun e w' => e = .returned (.bool (argB op arg)) ∧ w = w' := by
  by_cases h : op = 1 ∨ op = 3 ∨ op = 4
  · have HV : Hid (argB op arg = inB arg 0 999) := by unfold Hid argB; rw [if_pos ((bringsB_iff op).2 h)]
    rcases h with rfl | rfl | rfl
    all_goals
      by_cases h1 : 0 ≤ arg <;> by_cases h2 : arg < 1000
      all_goals
        go_enter Try.func81, Try.ntmps81
        go_wp2
        go_ret
        exact ⟨ret_bool (by rw [HV.out]; simp [inB]; omega), rfl⟩
  · have HV : Hid (argB op arg = (arg == 0)) := by
      unfold Hid argB
      rw [if_neg (fun e => h ((bringsB_iff op).1 e)), Bool.eq_iff_iff, inB_iff]; simp; omega
    have g1 : (op == 1) = false := by simp; omega
    have g3 : (op == 3) = false := by simp; omega
    have g4 : (op == 4) = false := by simp; omega
    clear h
    go_enter Try.func81, Try.ntmps81
    go_wp2
    go_ret
    exact ⟨ret_bool HV.out.symm, rfl⟩

set_option maxHeartbeats 400000 in
theorem timeOK_any (n : Int) (w : World) : Calls Try.prog 56 #[.int .i64 n] w fun e w' => e = .returned (.bool (inB n 0 1000000)) ∧ w = w' := by
  by_cases h1 : 0 ≤ n <;> by_cases h2 : n ≤ 1000000
  all_goals
    go_enter Try.func56, Try.ntmps56
    go_wp2
    go_ret
    exact ⟨ret_bool (by simp [inB]; omega), rfl⟩

set_option maxHeartbeats 1000000 in
theorem untilOK_any (op til : Int) (w : World) : Calls Try.prog 82 #[.int .i64 op, .int .i64 til] w fun e w' => e = .returned (.bool (tilB op til)) ∧ w = w' := by
  cases h : waitB op
  · have HV : Hid (tilB op til = (til == 0)) := by
      unfold Hid tilB
      rw [h, if_neg (by decide), Bool.eq_iff_iff, inB_iff]; simp; omega
    go_enter Try.func82, Try.ntmps82
    go_wp2_with (go_at_call 83; refine (implIsWaiting_any _ _).mono ?_; rintro e w' ⟨rfl, rfl⟩)
    go_ret
    exact ⟨ret_bool HV.out.symm, rfl⟩
  · have HV : Hid (tilB op til = inB til 0 1000000) := by unfold Hid tilB; rw [h, if_pos rfl]
    go_enter Try.func82, Try.ntmps82
    go_wp2_with (first | (go_at_call 83; refine (implIsWaiting_any _ _).mono ?_; rintro e w' ⟨rfl, rfl⟩) | (go_at_call 56; refine (timeOK_any _ _).mono ?_; rintro e w' ⟨rfl, rfl⟩))
    go_ret
    exact ⟨ret_bool HV.out.symm, rfl⟩

set_option maxHeartbeats 400000 in
theorem specIsWaiting_any (n : Int) (w : World) : Calls Try.prog 88 #[.int .i64 n] w fun e w' => e = .returned (.bool (waitB n)) ∧ w = w' := by
  unfold waitB
  go_enter Try.func88, Try.ntmps88
  go_wp2_with (go_at_call 52; refine (l01In_any _ _ _ _).mono ?_; rintro e w' ⟨rfl, rfl⟩)
  go_ret
  exact ⟨rfl, rfl⟩

set_option maxHeartbeats 400000 in
theorem l02Op_any (n : Int) (w : World) : Calls Try.prog 98 #[.int .i64 n] w fun e w' => e = .returned (.bool (opB n)) ∧ w = w' := by
  unfold opB
  go_enter Try.func98, Try.ntmps98
  go_wp2_with (go_at_call 52; refine (l01In_any _ _ _ _).mono ?_; rintro e w' ⟨rfl, rfl⟩)
  go_ret
  exact ⟨rfl, rfl⟩
end Go.Proofs.Ytabojajhnhcemaa

namespace Go.Proofs.Ytabojajhnhcemaa
open Go.RowKit

theorem wordsB_regs (r0 r1 r2 r3 r4 : Int) : wordsB [r0, r1, r2, r3, r4] = regsB r0 r1 r2 r3 r4 := by
  simp [wordsB, regsB, Bool.and_assoc]

/-- The registers of a thread that lies in a block of its own, as a slice. -/
theorem rd_regs (w : World) (id st op arg pc til : Int) (per can : Bool) (r0 r1 r2 r3 r4 code res : Int) : Rd (w.alloc (.cells #[.int .i64 id, .int .i64 st, .int .i64 op, .int .i64 arg, .int .i64 pc, .int .i64 til, .bool per, .bool can, .int .i64 r0, .int .i64 r1, .int .i64 r2, .int .i64 r3, .int .i64 r4, .int .i64 code, .int .i64 res] 29)) (some ⟨w.heap.size, 8, none⟩) [r0, r1, r2, r3, r4] := by
  intro i hi
  refine ⟨_, 8, rfl, ?_⟩
  have hi' : i < 5 := hi
  obtain rfl | rfl | rfl | rfl | rfl : i = 0 ∨ i = 1 ∨ i = 2 ∨ i = 3 ∨ i = 4 := by omega
  all_goals simp

set_option maxHeartbeats 1000000 in
theorem regsOK_any (g c : Nat) (r0 r1 r2 r3 r4 : Int) (w : World) (h : Rd w (some ⟨g, 8, none⟩) [r0, r1, r2, r3, r4]) :
    Calls Try.prog 38 #[.slice (some ⟨g, 8, none⟩) 5 c] w fun e w' => e = .returned (.bool (regsB r0 r1 r2 r3 r4)) ∧ w = w' := by
  rw [← wordsB_regs]
  exact wordsOK_any (some ⟨g, 8, none⟩) c [r0, r1, r2, r3, r4] w (by simp) h

theorem mayWait_any (id st op arg pc til : Int) (per can : Bool) (r0 r1 r2 r3 r4 code res : Int) (w : World) : Calls Try.prog 37 #[.agg #[.int .i64 id, .int .i64 st, .int .i64 op, .int .i64 arg, .int .i64 pc, .int .i64 til, .bool per, .bool can, .int .i64 r0, .int .i64 r1, .int .i64 r2, .int .i64 r3, .int .i64 r4, .int .i64 code, .int .i64 res]] w fun e w' => e = .returned (.bool (waitB op)) ∧ Below w.heap.size w w' := by
  go_enter Try.func37, Try.ntmps37
  go_wp2_with (go_at_call 83; refine (implIsWaiting_any _ _).mono ?_; rintro e w' ⟨rfl, rfl⟩)
  go_ret
  exact ⟨rfl, below_alloc _ _⟩

set_option maxHeartbeats 2000000 in
theorem callOK_any (id st op arg pc til : Int) (per can : Bool) (r0 r1 r2 r3 r4 code res : Int) (w : World) : Calls Try.prog 36 #[.agg #[.int .i64 id, .int .i64 st, .int .i64 op, .int .i64 arg, .int .i64 pc, .int .i64 til, .bool per, .bool can, .int .i64 r0, .int .i64 r1, .int .i64 r2, .int .i64 r3, .int .i64 r4, .int .i64 code, .int .i64 res]] w fun e w' => e = .returned (.bool (callB op arg pc til r0 r1 r2 r3 r4 code res)) ∧ Below w.heap.size w w' := by
  have HR := Lib.hid (rd_regs w id st op arg pc til per can r0 r1 r2 r3 r4 code res)
  unfold callB
  cases h1 : opB op
  · go_enter Try.func36, Try.ntmps36
    go_wp2_with (go_at_call 80; refine (opOK_any _ _).mono ?_; rintro e w' ⟨rfl, rfl⟩)
    go_ret
    exact ⟨ret_bool rfl, below_alloc _ _⟩
  cases h2 : argB op arg
  · go_enter Try.func36, Try.ntmps36
    go_wp2_with (first | (go_at_call 80; refine (opOK_any _ _).mono ?_; rintro e w' ⟨rfl, rfl⟩) | (go_at_call 81; refine (argOK_any _ _ _).mono ?_; rintro e w' ⟨rfl, rfl⟩))
    go_ret
    exact ⟨ret_bool rfl, below_alloc _ _⟩
  cases h3 : tilB op til
  · go_enter Try.func36, Try.ntmps36
    go_wp2_with (first | (go_at_call 80; refine (opOK_any _ _).mono ?_; rintro e w' ⟨rfl, rfl⟩) | (go_at_call 81; refine (argOK_any _ _ _).mono ?_; rintro e w' ⟨rfl, rfl⟩) | (go_at_call 82; refine (untilOK_any _ _ _).mono ?_; rintro e w' ⟨rfl, rfl⟩))
    go_ret
    exact ⟨ret_bool rfl, below_alloc _ _⟩
  cases h4 : inB pc 0 16
  · have h4' := inB_false h4
    clear h4
    by_cases h5 : 0 ≤ pc
    all_goals
      have h6 : pc < 0 ∨ 16 < pc := by omega
      clear h4'
      first | (have h7 : 16 < pc := by omega) | (have h7 : pc < 0 := by omega)
      clear h6
      go_enter Try.func36, Try.ntmps36
      go_wp2_with (first | (go_at_call 80; refine (opOK_any _ _).mono ?_; rintro e w' ⟨rfl, rfl⟩) | (go_at_call 81; refine (argOK_any _ _ _).mono ?_; rintro e w' ⟨rfl, rfl⟩) | (go_at_call 82; refine (untilOK_any _ _ _).mono ?_; rintro e w' ⟨rfl, rfl⟩))
      go_ret
      exact ⟨ret_bool rfl, below_alloc _ _⟩
  obtain ⟨h5, h6⟩ := inB_true h4
  clear h4
  cases h7 : regsB r0 r1 r2 r3 r4
  all_goals
    cases h8 : (code == 0) <;> cases h9 : (res == 0)
  all_goals
    go_enter Try.func36, Try.ntmps36
    go_wp2_with (first | (go_at_call 80; refine (opOK_any _ _).mono ?_; rintro e w' ⟨rfl, rfl⟩) | (go_at_call 81; refine (argOK_any _ _ _).mono ?_; rintro e w' ⟨rfl, rfl⟩) | (go_at_call 82; refine (untilOK_any _ _ _).mono ?_; rintro e w' ⟨rfl, rfl⟩) | (go_at_call 38; refine (regsOK_any _ _ r0 r1 r2 r3 r4 _ HR.out).mono ?_; rintro e w' ⟨rfl, rfl⟩))
    go_ret
    exact ⟨ret_bool rfl, below_alloc _ _⟩
end Go.Proofs.Ytabojajhnhcemaa

namespace Go.Proofs.Ytabojajhnhcemaa
open Go.RowKit

/-- A thread's fields. -/
structure Th where
  id : Int
  st : Int
  op : Int
  arg : Int
  pc : Int
  til : Int
  per : Bool
  can : Bool
  r0 : Int
  r1 : Int
  r2 : Int
  r3 : Int
  r4 : Int
  code : Int
  res : Int

def thZero : Th := ⟨0, 0, 0, 0, 0, 0, false, false, 0, 0, 0, 0, 0, 0, 0⟩
def newB (n : Int) : Th × Int := if inB n 0 3 = true then (⟨n, 0, 0, 0, 0, 0, false, false, 0, 0, 0, 0, 0, 0, 0⟩, 0) else (thZero, 4)
def begB (id st op arg pc til : Int) (per can : Bool) (r0 r1 r2 r3 r4 code res : Int) (o a u : Int) : Th × Int :=
  if thB id st op arg pc til per can r0 r1 r2 r3 r4 code res = true then (if (opB o && argB o a && tilB o u) = true then (if st = 0 then (⟨id, 1, o, a, 0, u, false, false, 0, 0, 0, 0, 0, 0, 0⟩, 0) else (⟨id, st, op, arg, pc, til, per, can, r0, r1, r2, r3, r4, code, res⟩, 9)) else (thZero, 4)) else (thZero, 1)
def canB (id st op arg pc til : Int) (per can : Bool) (r0 r1 r2 r3 r4 code res : Int) : Th × Int :=
  if thB id st op arg pc til per can r0 r1 r2 r3 r4 code res = true then (if waitB op = true then (⟨id, 1, op, arg, pc, til, per, true, r0, r1, r2, r3, r4, code, res⟩, 0) else (⟨id, st, op, arg, pc, til, per, can, r0, r1, r2, r3, r4, code, res⟩, 10)) else (thZero, 1)

theorem begB_bad (id st op arg pc til : Int) (per can : Bool) (r0 r1 r2 r3 r4 code res : Int) (o a u : Int) (h : thB id st op arg pc til per can r0 r1 r2 r3 r4 code res = false) : begB id st op arg pc til per can r0 r1 r2 r3 r4 code res o a u = (thZero, 1) := by unfold begB; rw [h]; rfl
theorem begB_range (id st op arg pc til : Int) (per can : Bool) (r0 r1 r2 r3 r4 code res : Int) (o a u : Int) (h : thB id st op arg pc til per can r0 r1 r2 r3 r4 code res = true) (h1 : (opB o && argB o a && tilB o u) = false) : begB id st op arg pc til per can r0 r1 r2 r3 r4 code res o a u = (thZero, 4) := by unfold begB; rw [h, h1]; rfl
theorem begB_busy (id st op arg pc til : Int) (per can : Bool) (r0 r1 r2 r3 r4 code res : Int) (o a u : Int) (h : thB id st op arg pc til per can r0 r1 r2 r3 r4 code res = true) (h1 : (opB o && argB o a && tilB o u) = true) (h2 : st ≠ 0) : begB id st op arg pc til per can r0 r1 r2 r3 r4 code res o a u = (⟨id, st, op, arg, pc, til, per, can, r0, r1, r2, r3, r4, code, res⟩, 9) := by unfold begB; rw [h, h1, if_neg h2]; rfl
theorem begB_ok (id op arg pc til : Int) (per can : Bool) (r0 r1 r2 r3 r4 code res : Int) (o a u : Int) (h : thB id 0 op arg pc til per can r0 r1 r2 r3 r4 code res = true) (h1 : (opB o && argB o a && tilB o u) = true) : begB id 0 op arg pc til per can r0 r1 r2 r3 r4 code res o a u = (⟨id, 1, o, a, 0, u, false, false, 0, 0, 0, 0, 0, 0, 0⟩, 0) := by unfold begB; rw [h, h1]; rfl
end Go.Proofs.Ytabojajhnhcemaa

namespace Go.Proofs.Ytabojajhnhcemaa
open Go.RowKit

set_option maxHeartbeats 400000 in
theorem l01Word_any (n : Int) (w : World) : Calls Try.prog 97 #[.int .i64 n] w fun e w' => e = .returned (.bool (wordB n)) ∧ w = w' := by
  unfold wordB
  go_enter Try.func97, Try.ntmps97
  go_wp2_with (go_at_call 52; refine (l01In_any _ _ _ _).mono ?_; rintro e w' ⟨rfl, rfl⟩)
  go_ret
  exact ⟨rfl, rfl⟩
end Go.Proofs.Ytabojajhnhcemaa

namespace Go.Proofs.Ytabojajhnhcemaa
open Go.RowKit

def eqRegs (a0 a1 a2 a3 a4 b0 b1 b2 b3 b4 : Int) : Bool := a0 == b0 && a1 == b1 && a2 == b2 && a3 == b3 && a4 == b4
def eqTh (id st op arg pc til : Int) (per can : Bool) (r0 r1 r2 r3 r4 code res : Int) (id' st' op' arg' pc' til' : Int) (per' can' : Bool) (s0 s1 s2 s3 s4 code' res' : Int) : Bool :=
  id == id' && st == st' && op == op' && arg == arg' && pc == pc' && til == til' && per == per' && can == can' && eqRegs r0 r1 r2 r3 r4 s0 s1 s2 s3 s4 && code == code' && res == res'

theorem size_int (w : World) : (sizeOf 3).run Try.prog w = .ok 1 w := by kernel_rfl

theorem run_eq_regs (d : Nat) (a0 a1 a2 a3 a4 b0 b1 b2 b3 b4 : Int) (w : World) :
    (Op.equalIn (d + 2) 27 (.agg #[.int .i64 a0, .int .i64 a1, .int .i64 a2, .int .i64 a3, .int .i64 a4]) (.agg #[.int .i64 b0, .int .i64 b1, .int .i64 b2, .int .i64 b3, .int .i64 b4])).run Try.prog w = .ok (eqRegs a0 a1 a2 a3 a4 b0 b1 b2 b3 b4) w := by
  have pe : ∀ a b, (Op.equalIn (d + 1) 3 (.int .i64 a) (.int .i64 b)).run Try.prog w = .ok (a == b) w := fun a b => run_equalIn_int w d 3 .i64 .i64 a b Try.underlying3
  have px : ∀ (x0 x1 x2 x3 x4 : Int), (part 3 #[.int .i64 x0, .int .i64 x1, .int .i64 x2, .int .i64 x3, .int .i64 x4] 0).run Try.prog w = .ok (.int .i64 x0) w ∧
      (part 3 #[.int .i64 x0, .int .i64 x1, .int .i64 x2, .int .i64 x3, .int .i64 x4] 1).run Try.prog w = .ok (.int .i64 x1) w ∧
      (part 3 #[.int .i64 x0, .int .i64 x1, .int .i64 x2, .int .i64 x3, .int .i64 x4] 2).run Try.prog w = .ok (.int .i64 x2) w ∧
      (part 3 #[.int .i64 x0, .int .i64 x1, .int .i64 x2, .int .i64 x3, .int .i64 x4] 3).run Try.prog w = .ok (.int .i64 x3) w ∧
      (part 3 #[.int .i64 x0, .int .i64 x1, .int .i64 x2, .int .i64 x3, .int .i64 x4] 4).run Try.prog w = .ok (.int .i64 x4) w := by
    intro x0 x1 x2 x3 x4
    simp [part, isAgg, run_underlying Try.underlying3]
  obtain ⟨a0', a1', a2', a3', a4'⟩ := px a0 a1 a2 a3 a4
  obtain ⟨b0', b1', b2', b3', b4'⟩ := px b0 b1 b2 b3 b4
  rw [Op.equalIn]
  simp only [Sem.run_bind, run_underlying Try.underlying27, Result.andThen_ok, size_int, Std.Legacy.Range.forIn_eq_forIn_range', Std.Legacy.Range.size, Nat.sub_zero, Nat.add_sub_cancel, Nat.div_one, Nat.mul_one]
  unfold eqRegs
  cases h0 : (a0 == b0) <;> cases h1 : (a1 == b1) <;> cases h2 : (a2 == b2) <;> cases h3 : (a3 == b3) <;> cases h4 : (a4 == b4)
  all_goals
    simp only [List.range', List.forIn_cons, List.forIn_nil, Sem.run_bind, a0', a1', a2', a3', a4', b0', b1', b2', b3', b4', pe, Result.andThen_ok, Nat.zero_add, Nat.reduceAdd, h0, h1, h2, h3, h4, Bool.not_false, Bool.not_true, if_true, Bool.false_eq_true, if_false, Sem.run_pure, Bool.and_true, Bool.and_false]

theorem run_eq_thread (id st op arg pc til : Int) (per can : Bool) (r0 r1 r2 r3 r4 code res : Int) (id' st' op' arg' pc' til' : Int) (per' can' : Bool) (s0 s1 s2 s3 s4 code' res' : Int) (w : World) :
    (Op.equalIn 10000 29 (.agg #[.int .i64 id, .int .i64 st, .int .i64 op, .int .i64 arg, .int .i64 pc, .int .i64 til, .bool per, .bool can, .int .i64 r0, .int .i64 r1, .int .i64 r2, .int .i64 r3, .int .i64 r4, .int .i64 code, .int .i64 res]) (.agg #[.int .i64 id', .int .i64 st', .int .i64 op', .int .i64 arg', .int .i64 pc', .int .i64 til', .bool per', .bool can', .int .i64 s0, .int .i64 s1, .int .i64 s2, .int .i64 s3, .int .i64 s4, .int .i64 code', .int .i64 res'])).run Try.prog w = .ok (eqTh id st op arg pc til per can r0 r1 r2 r3 r4 code res id' st' op' arg' pc' til' per' can' s0 s1 s2 s3 s4 code' res') w := by
  have hr := fun wx => run_eq_regs 9997 r0 r1 r2 r3 r4 s0 s1 s2 s3 s4 wx
  have hq : Try.prog.stoodInHeld 29 = false := by kernel_rfl
  rw [show (10000 : Nat) = 9999 + 1 from rfl, run_equalIn_struct w 9999 29 _ _ (by kernel_rfl) hq]
  simp [go_sem, Op.eqFields, Program.fieldsOf, Try.underlying29, part, isAgg, run_underlying Try.underlying3, run_underlying Try.underlying4, run_underlying Try.underlying27, hr]
  unfold eqTh
  generalize eqRegs r0 r1 r2 r3 r4 s0 s1 s2 s3 s4 = q
  clear hr hq
  refine if h0 : id = id' then ?_ else (by simp [h0])
  refine if h1 : st = st' then ?_ else (by simp [h1])
  refine if h2 : op = op' then ?_ else (by simp [h2])
  refine if h3 : arg = arg' then ?_ else (by simp [h3])
  refine if h4 : pc = pc' then ?_ else (by simp [h4])
  refine if h5 : til = til' then ?_ else (by simp [h5])
  refine if h6 : per = per' then ?_ else (by simp [h6])
  refine if h7 : can = can' then ?_ else (by simp [h7])
  cases q
  · simp
  refine if h8 : code = code' then ?_ else (by simp [h8])
  refine if h9 : res = res' then ?_ else (by simp [h9])
  simp [h0, h1, h2, h3, h4, h5, h6, h7, h8, h9]

theorem run_eql_thread (id st op arg pc til : Int) (per can : Bool) (r0 r1 r2 r3 r4 code res : Int) (id' st' op' arg' pc' til' : Int) (per' can' : Bool) (s0 s1 s2 s3 s4 code' res' : Int) (w : World) :
    (binOp .eql 29 (.agg #[.int .i64 id, .int .i64 st, .int .i64 op, .int .i64 arg, .int .i64 pc, .int .i64 til, .bool per, .bool can, .int .i64 r0, .int .i64 r1, .int .i64 r2, .int .i64 r3, .int .i64 r4, .int .i64 code, .int .i64 res]) (.agg #[.int .i64 id', .int .i64 st', .int .i64 op', .int .i64 arg', .int .i64 pc', .int .i64 til', .bool per', .bool can', .int .i64 s0, .int .i64 s1, .int .i64 s2, .int .i64 s3, .int .i64 s4, .int .i64 code', .int .i64 res'])).run Try.prog w = .ok (.bool (eqTh id st op arg pc til per can r0 r1 r2 r3 r4 code res id' st' op' arg' pc' til' per' can' s0 s1 s2 s3 s4 code' res')) w := by
  rw [run_eql_struct, run_eq_thread]; rfl
theorem run_neq_thread (id st op arg pc til : Int) (per can : Bool) (r0 r1 r2 r3 r4 code res : Int) (id' st' op' arg' pc' til' : Int) (per' can' : Bool) (s0 s1 s2 s3 s4 code' res' : Int) (w : World) :
    (binOp .neq 29 (.agg #[.int .i64 id, .int .i64 st, .int .i64 op, .int .i64 arg, .int .i64 pc, .int .i64 til, .bool per, .bool can, .int .i64 r0, .int .i64 r1, .int .i64 r2, .int .i64 r3, .int .i64 r4, .int .i64 code, .int .i64 res]) (.agg #[.int .i64 id', .int .i64 st', .int .i64 op', .int .i64 arg', .int .i64 pc', .int .i64 til', .bool per', .bool can', .int .i64 s0, .int .i64 s1, .int .i64 s2, .int .i64 s3, .int .i64 s4, .int .i64 code', .int .i64 res'])).run Try.prog w = .ok (.bool (!eqTh id st op arg pc til per can r0 r1 r2 r3 r4 code res id' st' op' arg' pc' til' per' can' s0 s1 s2 s3 s4 code' res')) w := by
  rw [run_neq_struct, run_eq_thread]; rfl
theorem eqTh_refl (id st op arg pc til : Int) (per can : Bool) (r0 r1 r2 r3 r4 code res : Int) : eqTh id st op arg pc til per can r0 r1 r2 r3 r4 code res id st op arg pc til per can r0 r1 r2 r3 r4 code res = true := by simp [eqTh, eqRegs]
theorem eqTh_bare (id st op arg pc til : Int) (per can : Bool) (r0 r1 r2 r3 r4 code res : Int) : eqTh id st op arg pc til per can r0 r1 r2 r3 r4 code res id 0 0 0 0 0 false false 0 0 0 0 0 code res = (st == 0 && bareB op arg pc til per can r0 r1 r2 r3 r4) := by
  rw [Bool.eq_iff_iff]
  simp [eqTh, eqRegs, bareB, zeroB]
  constructor
  · intro h; simp_all
  · intro h; simp_all
end Go.Proofs.Ytabojajhnhcemaa

namespace Go.Proofs.Ytabojajhnhcemaa
open Go.RowKit

/-- A thread in a block of its own. -/
def BoxT (w : World) (k : Nat) (cs : Array Value) : Prop := w.heap[k]? = some (.cells cs 29 (0, 0))
theorem BoxT.lt {w : World} {k : Nat} {cs : Array Value} (h : BoxT w k cs) : k < w.heap.size := (Array.getElem?_eq_some_iff.1 h).1
theorem BoxT.below {w w' : World} {k : Nat} {cs : Array Value} (h : BoxT w k cs) (hb : Below w.heap.size w w') : BoxT w' k cs := (hb.block k h.lt).trans h
theorem BoxT.two (w : World) (xs bs : Array Value) : BoxT ((w.alloc (.cells xs 29)).alloc (.cells bs 29)) w.heap.size xs := heap_alloc2_old w _ _
theorem BoxT.two' (w : World) (xs bs : Array Value) : BoxT ((w.alloc (.cells xs 29)).alloc (.cells bs 29)) (w.heap.size + 1) bs := heap_alloc2_new w _ _
theorem BoxT.row {w : World} {k : Nat} {cs : Array Value} (h : BoxT w k cs) (bs : Array Value) : BoxT (w.setRow k bs) k bs := setRow_heap w k cs bs _ _ h
theorem BoxT.cell {w : World} {k : Nat} {cs : Array Value} (h : BoxT w k cs) (j : Nat) : w.cell? ⟨k, j, none⟩ = cs[j]? := cell_of_row w k j cs _ _ h
theorem below_row {w w' : World} {k : Nat} (h : Below w.heap.size w w') (hk : w.heap.size ≤ k) (cs : Array Value) : Below w.heap.size w (w'.setRow k cs) := below_setRow h hk cs

theorem one15 (id st op arg pc til : Int) (per can : Bool) (r0 r1 r2 r3 r4 code res : Int) : (#[.int .i64 id, .int .i64 st, .int .i64 op, .int .i64 arg, .int .i64 pc, .int .i64 til, .bool per, .bool can, .int .i64 r0, .int .i64 r1, .int .i64 r2, .int .i64 r3, .int .i64 r4, .int .i64 code, .int .i64 res] : Array Value).all (·.oneCell') = true := by simp [Value.oneCell']
theorem info_th : (Try.prog.info? 29).map (·.size) = some 15 := by kernel_rfl

theorem results_th {fn : Func} {p q : Tmp} (h : fn.results = #[.cell p 29, .tmp q]) (tmps : Array Value) (w : World) (g : Nat) (cs : Array Value) (v : Value)
    (hp : tmps.getD p undef = .pointer (some ⟨g, 0, none⟩)) (hq : tmps.getD q undef = v) (hg : BoxT w g cs) (hs : cs.size = 15) :
    (results fn tmps).run Try.prog w = .ok (.tuple #[.agg cs, v]) w := by
  have hp' : tmps[p]?.getD undef = .pointer (some ⟨g, 0, none⟩) := by simpa using hp
  have hq' : tmps[q]?.getD undef = v := by simpa using hq
  have hl := run_loadVar_row w g 29 29 cs (0, 0) _ hg Try.underlying29 rfl (by rw [hs]; exact info_th)
  simp [results, h, hp', hq', asAddr, hl]
end Go.Proofs.Ytabojajhnhcemaa

namespace Go.Proofs.Ytabojajhnhcemaa
open Go.RowKit

theorem BoxT.new (w : World) (cs : Array Value) : BoxT (w.alloc (.cells cs 29)) w.heap.size cs := heap_alloc_new w _
theorem BoxT.set {w : World} {k : Nat} {cs : Array Value} (h : BoxT w k cs) (i : Nat) (v : Value) : BoxT (w.setCell ⟨k, i, none⟩ v) k (cs.setIfInBounds i v) := heap_setCell_same w k i cs _ v h
theorem BoxT.other {w : World} {k : Nat} {cs : Array Value} (h : BoxT w k cs) (a : Addr) (v : Value) (hk : k ≠ a.block) : BoxT (w.setCell a v) k cs := (heap_setCell_other w a k v hk).trans h
theorem BoxT.froz {w : World} {k : Nat} {cs : Array Value} (h : BoxT w k cs) (j : Nat) : w.frozen? ⟨k, j, none⟩ = false := frozen_of_row w k j cs _ h
theorem below_set {w w' : World} {a : Addr} {v : Value} (h : Below w.heap.size w w') (ha : w.heap.size ≤ a.block) : Below w.heap.size w (w'.setCell a v) := h.setCell ha v
end Go.Proofs.Ytabojajhnhcemaa

namespace Go.Proofs.Ytabojajhnhcemaa
open Go.RowKit

def bitI (b : Bool) : Int := if b then 1 else 0
theorem bitI_bounds (b : Bool) : 0 ≤ bitI b ∧ bitI b ≤ 1 := by cases b <;> decide
/-- What NodeRef answers. -/
def refB (n : Int) (b : Bool) : Int × Int := if inB n 1 399 then (2 * n + bitI b, 0) else (0, 4)
/-- What NodeAt answers. -/
def nodeB (r : Int) : Int × Bool × Int := if inB r 2 799 then (r.tdiv 2, decide (r.tmod 2 = 1), 0) else (0, false, 4)
/-- What ItemWaits answers. -/
def waitsB (b : Bool) (x : Int) : Bool := if b then decide (0 < x) else decide (x = 0)

set_option maxHeartbeats 400000 in
theorem kindBit_any (b : Bool) (w : World) : Calls Try.prog 60 #[.bool b] w fun e w' => e = .returned (.int .i64 (bitI b)) ∧ w = w' := by
  cases b
  all_goals
    go_enter Try.func60, Try.ntmps60
    go_wp2
    go_ret
    exact ⟨rfl, rfl⟩

set_option maxHeartbeats 400000 in
theorem bitOf_any (b : Bool) (w : World) : Calls Try.prog 49 #[.bool b] w fun e w' => e = .returned (.int .i64 (bitI b)) ∧ w = w' := by
  cases b
  all_goals
    go_enter Try.func49, Try.ntmps49
    go_wp2
    go_ret
    exact ⟨rfl, rfl⟩

theorem half_bounds (n : Int) (h : -1000000000000 ≤ n ∧ n ≤ 1000000000000) : -1000000000000 ≤ n.tdiv 2 ∧ n.tdiv 2 ≤ 1000000000000 := by
  by_cases hn : 0 ≤ n
  · rw [Int.tdiv_eq_ediv_of_nonneg hn]; omega
  · have := Int.neg_tdiv n 2
    have h2 : (-n).tdiv 2 = (-n) / 2 := Int.tdiv_eq_ediv_of_nonneg (by omega)
    omega
theorem wrap_half (n : Int) (h : -1000000000000 ≤ n ∧ n ≤ 1000000000000) : IntKind.i64.wrap (n.tdiv 2) = n.tdiv 2 :=
  IntWalk.i64_in _ (by have := half_bounds n h; omega)
theorem rest_bounds (n : Int) : -1 ≤ n.tmod 2 ∧ n.tmod 2 ≤ 1 := by
  by_cases hn : 0 ≤ n
  · rw [Int.tmod_eq_emod_of_nonneg hn]; omega
  · have := Int.neg_tmod n 2
    have h2 : (-n).tmod 2 = (-n) % 2 := Int.tmod_eq_emod_of_nonneg (by omega)
    omega
theorem wrap_rest (n : Int) : IntKind.i64.wrap (n.tmod 2) = n.tmod 2 :=
  IntWalk.i64_in _ (by have := rest_bounds n; omega)

/-- Half a reference: where a node's first cell is. -/
def halfI (n : Int) : Int := n.tdiv 2
/-- A reference that brings. -/
def bringsR (n : Int) : Bool := decide (n.tmod 2 = 1)
theorem half_word {n : Int} (h : wordB n = true) : -500000000 ≤ halfI n ∧ halfI n ≤ 500000000 := by
  rw [wordB_iff] at h
  unfold halfI
  by_cases hn : 0 ≤ n
  · rw [Int.tdiv_eq_ediv_of_nonneg hn]; omega
  · have := Int.neg_tdiv n 2
    have h2 : (-n).tdiv 2 = (-n) / 2 := Int.tdiv_eq_ediv_of_nonneg (by omega)
    omega

set_option maxHeartbeats 400000 in
theorem itemOf_any (n : Int) (w : World) (h : -1000000000000 ≤ n ∧ n ≤ 1000000000000) : Calls Try.prog 67 #[.int .i64 n] w fun e w' => e = .returned (.int .i64 (halfI n)) ∧ w = w' := by
  have e1 := wrap_half n h
  go_enter Try.func67, Try.ntmps67
  go_wp2
  go_ret
  exact ⟨rfl, rfl⟩
set_option maxHeartbeats 400000 in
theorem nextOf_any (n : Int) (w : World) (h : -1000000000000 ≤ n ∧ n ≤ 1000000000000) : Calls Try.prog 63 #[.int .i64 n] w fun e w' => e = .returned (.int .i64 (halfI n + 1)) ∧ w = w' := by
  have e1 := wrap_half n h
  have e3 := half_bounds n h
  have e2 : IntKind.i64.wrap (n.tdiv 2 + 1) = n.tdiv 2 + 1 := IntWalk.i64_in _ (by omega)
  go_enter Try.func63, Try.ntmps63
  go_wp2
  go_ret
  exact ⟨rfl, rfl⟩
set_option maxHeartbeats 400000 in
theorem brings_any (n : Int) (w : World) : Calls Try.prog 95 #[.int .i64 n] w fun e w' => e = .returned (.bool (bringsR n)) ∧ w = w' := by
  have e1 := wrap_rest n
  unfold bringsR
  by_cases h : n.tmod 2 = 1
  all_goals
    go_enter Try.func95, Try.ntmps95
    go_wp2
    go_ret
    exact ⟨by simp [h], rfl⟩
end Go.Proofs.Ytabojajhnhcemaa

namespace Go.Proofs.Ytabojajhnhcemaa
open Go.RowKit

theorem Try.infoInt : (Try.prog.info? 3).map (fun i => (i.zero, i.size, i.bytes)) = some (some (.int .i64 0), 1, 8) := by kernel_rfl

/-- What the size check leaves. -/
def leftB (l : Int) (n : Nat) : Int := if l - n < 0 then -1 else l - n
theorem leftB_neg {l : Int} {n : Nat} (h : leftB l n < 0) : leftB l n = -1 := by
  unfold leftB at *
  by_cases h' : l - n < 0
  · rw [if_pos h']
  · rw [if_neg h'] at h; omega

set_option maxHeartbeats 400000 in
theorem szIntS_any (A : Option Addr) (n c : Nat) (l : Int) (w : World) (hn : n ≤ maxLen) (h0 : 0 ≤ l) (h1 : l ≤ 1048576) :
    Calls Try.prog 39 #[.slice A n c, .int .i64 l] w fun e w' => e = .returned (.int .i64 (leftB l n)) ∧ w = w' := by
  unfold maxLen at hn
  by_cases hlt : l - (n : Int) < 0
  · have hL : leftB l n = -1 := by unfold leftB; rw [if_pos hlt]
    have HL := Lib.hid hL; clear hL
    go_enter Try.func39, Try.ntmps39
    go_wp2
    go_ret
    exact ⟨ret_int HL.out.symm, rfl⟩
  · have hL : leftB l n = l - n := by unfold leftB; rw [if_neg hlt]
    have HL := Lib.hid hL; clear hL
    go_enter Try.func39, Try.ntmps39
    go_wp2
    go_ret
    exact ⟨ret_int HL.out.symm, rfl⟩

set_option maxHeartbeats 400000 in
theorem szArena_any (A : Option Addr) (n c : Nat) (l : Int) (w : World) (hn : n ≤ maxLen) (h0 : 0 ≤ l) (h1 : l ≤ 1048576) :
    Calls Try.prog 15 #[.agg #[.slice A n c], .int .i64 l] w fun e w' => e = .returned (.int .i64 (leftB l n)) ∧ Below w.heap.size w w' := by
  by_cases hlt : leftB l n < 0
  · have hL : leftB l n = -1 := leftB_neg hlt
    have HL := Lib.hid hL; clear hL
    go_enter Try.func15, Try.ntmps15
    go_wp2_with (go_at_call 39; refine (szIntS_any _ _ _ _ _ hn h0 h1).mono ?_; rintro e w' ⟨rfl, rfl⟩)
    go_ret
    exact ⟨ret_int HL.out.symm, below_alloc _ _⟩
  · go_enter Try.func15, Try.ntmps15
    go_wp2_with (go_at_call 39; refine (szIntS_any _ _ _ _ _ hn h0 h1).mono ?_; rintro e w' ⟨rfl, rfl⟩)
    go_ret
    exact ⟨rfl, below_alloc _ _⟩

set_option maxHeartbeats 1000000 in
theorem toIntS_any (A : Option Addr) (c : Nat) (zs : List Int) (w : World) (hn : zs.length ≤ 1048576) (hA : Rd w A zs) :
    Calls Try.prog 40 #[.slice A zs.length c] w fun e w' => e = .returned (.slice (some ⟨w.heap.size, 0, none⟩) zs.length zs.length) ∧
      w'.ownsRow w.heap.size 3 1 (.slice (some ⟨w.heap.size, 0, none⟩) zs.length zs.length) zs.length (ints zs) ∧ Below w.heap.size w w' := by
  obtain ⟨i0, hi, hz0, hz1, hz2⟩ := info_parts Try.infoInt
  have hb2 : i0.bytes * zs.length ≤ 281474976710656 := by rw [hz2]; omega
  have hml : zs.length ≤ maxLen := by unfold maxLen; omega
  have Hi := Lib.hid hi; have Hz0 := Lib.hid hz0; have Hz1 := Lib.hid hz1; have Hz2 := Lib.hid hz2
  have Hb2 := Lib.hid hb2; have Hml := Lib.hid hml
  clear hi hz0 hz1 hz2 hb2 hml
  have HA := Lib.hid hA; clear hA
  go_enter Try.func40, Try.ntmps40
  go_wp2_with (at_make; refine wpList_make_full _ rfl (.tmp 6) (.tmp 6) 23 rfl w.heap.size 3 i0 (.int .i64 0) 1 Try.underlying23 Hi.out Hz0.out Hz1.out .i64 .i64 _ _ zs.length rfl rfl rfl rfl Hb2.out Hml.out (Nat.le_refl _) ?_)
  intro w1 hown hgr
  have hb := below_grown hgr
  rw [made_zero, ← fillTo_zero] at hown
  have HO := Lib.hid hown; have HB := Lib.hid hb
  clear hown hgr hb
  go_wp2
  go_loopw [4] (fun i wr => ∃ k : Nat, k ≤ zs.length ∧ i = .int .i64 k ∧ wr.ownsRow w.heap.size 3 1 (.slice (some ⟨w.heap.size, 0, none⟩) zs.length zs.length) zs.length (ints (fillTo zs k)) ∧ Below w.heap.size w wr)
    (fun i _ => zs.length - (intOf i).toNat)
  case atStart => exact ⟨0, Nat.zero_le _, rfl, HO.out, HB.out⟩
  case round =>
    obtain ⟨k, hk, rfl, hown, hbl⟩ := hrel
    have HO' := Lib.hid hown; have HB' := Lib.hid hbl
    clear hown hbl
    by_cases hlt : k < zs.length
    · obtain ⟨b, o, rfl, hcell⟩ := (HA.out.below HB'.out) k hlt
      have hold : wr.cell? ⟨w.heap.size, k, none⟩ = some (.int .i64 ((fillTo zs k).getD k 0)) := by
        rw [World.ownsRow.cellAt HO'.out k (by omega)]; exact ints_get _ _ (by rw [fillTo_length]; exact hlt)
      have hfz := HO'.out.frozenAt k
      have HS := Lib.hid (HO'.out.stored k (.int .i64 (zs.getD k 0)))
      generalize hx : zs.getD k 0 = x at *
      generalize hy : (fillTo zs k).getD k 0 = y at *
      have HX := Lib.hid hx
      clear hx hy
      go_wp2
      go_roundw
      case rel =>
        have h1 := HS.out.1
        rw [ints_set, ← HX.out, fillTo_set _ _ hlt, HX.out] at h1
        exact ⟨k + 1, by omega, by go_num, h1, HB'.out.setCell (Nat.le_refl _) _⟩
      case measure => simp [intOf]; omega
    · have hfin : Hid (fillTo zs k = zs) := fillTo_all _ _ (by omega)
      go_wp2
      go_ret
      refine ⟨rfl, ?_, HB'.out⟩
      have := HO'.out
      rw [hfin.out] at this
      exact this

set_option maxHeartbeats 1000000 in
theorem toArena_any (A : Option Addr) (c : Nat) (zs : List Int) (w : World) (hn : zs.length ≤ 1048576) (hA : Rd w A zs) :
    Calls Try.prog 16 #[.agg #[.slice A zs.length c]] w fun e w' => ∃ g, e = .returned (.agg #[.slice (some ⟨g, 0, none⟩) zs.length zs.length]) ∧
      w'.ownsRow w.heap.size 3 1 (.slice (some ⟨g, 0, none⟩) zs.length zs.length) zs.length (ints zs) ∧ Below w.heap.size w w' := by
  have HA := Lib.hid hA; clear hA
  go_enter Try.func16, Try.ntmps16
  go_wp2_with fail
  refine (toIntS_any _ _ _ _ hn (HA.out.below (((below_alloc _ _).alloc (by simp) _).alloc (by simp <;> omega) _))).mono ?_
  rintro e w' ⟨rfl, hown, hb⟩
  obtain ⟨hc, hf⟩ := bcell hb
  have HO := Lib.hid hown; have HB := Lib.hid hb
  clear hown hb
  go_wp2
  refine bodyPost_ret (v := .agg #[.slice (some ⟨w.heap.size + 1 + 1 + 1, 0, none⟩) zs.length zs.length]) (by simp [results, Try.results16, go_sem, hc]) rfl ⟨w.heap.size + 1 + 1 + 1, rfl, ?_, ?_⟩
  · have h := HO.out
    simp only [size_alloc] at h
    exact own_base (ownsRow_setCell_below (ownsRow_setCell_below h (by simp <;> omega) _) (by simp <;> omega) _) (by omega)
  · exact ((((below_alloc _ _).alloc (by simp) _).alloc (by simp <;> omega) _).trans (HB.out.mono (by simp <;> omega))).setCell (by simp <;> omega) _ |>.setCell (by simp) _
end Go.Proofs.Ytabojajhnhcemaa

namespace Go.Proofs.Ytabojajhnhcemaa
open Go.RowKit

set_option maxHeartbeats 1000000 in
theorem eqIntS_any (A B : Option Addr) (c d : Nat) (xs ys : List Int) (w : World) (hn : xs.length ≤ maxLen) (hm : ys.length ≤ maxLen) (hA : Rd w A xs) (hB : Rd w B ys) :
    Calls Try.prog 42 #[.slice A xs.length c, .slice B ys.length d] w fun e w' => e = .returned (.bool (decide (xs = ys))) ∧ ∃ n, w' = w.drewN n := by
  unfold maxLen at hn hm
  by_cases hl : xs.length = ys.length
  · have hl' : ((xs.length : Int) != (ys.length : Int)) = false := by simp [hl]
    have HL := Lib.hid hl; clear hl
    have HA := Lib.hid hA; have HB := Lib.hid hB; clear hA hB
    go_enter Try.func42, Try.ntmps42
    go_wp2
    go_loopw [5] (fun i wr => ∃ k : Nat, k ≤ xs.length ∧ i = .int .i64 k ∧ (∀ j, j < k → xs.getD j 0 = ys.getD j 0) ∧ ∃ n, wr = w.drewN n) (fun i _ => xs.length - (intOf i).toNat)
    case atStart => exact ⟨0, Nat.zero_le _, rfl, fun j hj => absurd hj (by omega), 0, rfl⟩
    case round =>
      obtain ⟨k, hk, rfl, hsame, n, rfl⟩ := hrel
      have HS := Lib.hid hsame; clear hsame
      by_cases hlt : k < xs.length
      · have hlt' : k < ys.length := by have := HL.out; omega
        obtain ⟨b, o, rfl, hcell⟩ := HA.out k hlt
        obtain ⟨b', o', rfl, hcell'⟩ := HB.out k hlt'
        generalize hx : xs.getD k 0 = x at *
        generalize hy : ys.getD k 0 = y at *
        have HX := Lib.hid hx; have HY := Lib.hid hy; clear hx hy
        by_cases hxy : x = y
        · subst hxy
          go_wp2
          go_region
          all_goals
            go_wp2
            go_roundw
            case rel => exact ⟨k + 1, by omega, by go_num, fun j hj => by
              by_cases e : j < k
              · exact HS.out j e
              · obtain rfl : j = k := by omega
                rw [HX.out, HY.out], n + 1, rfl⟩
            case measure => simp [intOf]; omega
        · have hne : (x != y) = true := by simp [hxy]
          have HN : Hid (decide (xs = ys) = false) := by
            apply decide_eq_false
            rintro rfl
            exact hxy (HX.out.symm.trans HY.out)
          clear hxy
          go_wp2
          go_region
          all_goals
            go_wp2
            go_ret
            exact ⟨ret_bool HN.out.symm, n + 1, rfl⟩
      · have HN : Hid (decide (xs = ys) = true) := by
          apply decide_eq_true
          apply List.ext_getElem? 
          intro j
          by_cases hj : j < xs.length
          · have h1 := HS.out j (by omega)
            have hj' : j < ys.length := by have := HL.out; omega
            simp only [List.getD, List.getElem?_eq_getElem hj, List.getElem?_eq_getElem hj', Option.getD_some] at h1
            rw [List.getElem?_eq_getElem hj, List.getElem?_eq_getElem hj', h1]
          · rw [List.getElem?_eq_none (by omega), List.getElem?_eq_none (by have := HL.out; omega)]
        go_wp2
        go_ret
        exact ⟨ret_bool HN.out.symm, n, rfl⟩
  · have hl' : ((xs.length : Int) != (ys.length : Int)) = true := by simp; omega
    have HN : Hid (decide (xs = ys) = false) := by
      apply decide_eq_false
      rintro rfl
      exact hl rfl
    clear hl
    go_enter Try.func42, Try.ntmps42
    go_wp2
    go_ret
    exact ⟨ret_bool HN.out.symm, 0, rfl⟩

set_option maxHeartbeats 1000000 in
theorem eqArena_any (A B : Option Addr) (c d : Nat) (xs ys : List Int) (w : World) (hn : xs.length ≤ maxLen) (hm : ys.length ≤ maxLen) (hA : Rd w A xs) (hB : Rd w B ys) :
    Calls Try.prog 18 #[.agg #[.slice A xs.length c], .agg #[.slice B ys.length d]] w fun e w' => e = .returned (.bool (decide (xs = ys))) ∧ Below w.heap.size w w' := by
  have HA := Lib.hid hA; have HB := Lib.hid hB; clear hA hB
  cases he : decide (xs = ys)
  all_goals
    have HE := Lib.hid he; clear he
    go_enter Try.func18, Try.ntmps18
    go_wp2_with fail
    refine (eqIntS_any _ _ _ _ xs ys _ hn hm (HA.out.below ((below_alloc _ _).alloc (by simp) _)) (HB.out.below ((below_alloc _ _).alloc (by simp) _))).mono ?_
    rintro e w' ⟨rfl, n, rfl⟩
    rw [HE.out]
    go_wp2
    go_ret
    exact ⟨rfl, ((below_alloc _ _).alloc (by simp) _).trans ((below_drewN _).mono (by simp <;> omega))⟩

/-- The numbers from k on, n of them. -/
def upFrom (k : Int) (n : Nat) : List Int := (List.range n).map fun (i : Nat) => k + (i : Int)
theorem upFrom_length (k : Int) (n : Nat) : (upFrom k n).length = n := by simp [upFrom]
theorem upFrom_get (k : Int) (n i : Nat) (h : i < n) : (upFrom k n).getD i 0 = k + i := by simp [upFrom, List.getD, h]
def markTo (k : Int) (zs : List Int) (j : Nat) : List Int := upFrom k j ++ zs.drop j
theorem markTo_zero (k : Int) (zs : List Int) : markTo k zs 0 = zs := by simp [markTo, upFrom]
theorem markTo_all (k : Int) (zs : List Int) (j : Nat) (h : j = zs.length) : markTo k zs j = upFrom k zs.length := by subst h; simp [markTo]
theorem markTo_length (k : Int) (zs : List Int) (j : Nat) (h : j ≤ zs.length) : (markTo k zs j).length = zs.length := by simp [markTo, upFrom_length]; omega
theorem upFrom_succ (k : Int) (j : Nat) : upFrom k (j + 1) = upFrom k j ++ [k + j] := by simp [upFrom, List.range_succ]
theorem markTo_set (k : Int) (zs : List Int) (j : Nat) (h : j < zs.length) : (markTo k zs j).set j (k + j) = markTo k zs (j + 1) := by
  unfold markTo
  rw [List.set_append_right _ _ (by rw [upFrom_length]; omega), upFrom_length, Nat.sub_self, upFrom_succ, List.append_assoc]
  rw [show zs.drop j = zs[j] :: zs.drop (j + 1) from List.drop_eq_getElem_cons h, List.set_cons_zero]; rfl

set_option maxHeartbeats 1000000 in
theorem markIntS_any (A : Option Addr) (c base : Nat) (zs : List Int) (k : Int) (w : World) (hn : zs.length ≤ 1048576) (h0 : 0 ≤ k) (h1 : k ≤ 1000000000)
    (hown : w.ownsRow base 3 1 (.slice A zs.length c) zs.length (ints zs)) :
    Calls Try.prog 44 #[.slice A zs.length c, .int .i64 k] w fun e w' => e = .returned (.int .i64 (k + zs.length)) ∧
      w'.ownsRow base 3 1 (.slice A zs.length c) zs.length (ints (upFrom k zs.length)) ∧ w.grownBy w' (Value.ownBlock (.slice A zs.length c)) := by
  have HO := Lib.hid hown; clear hown
  go_enter Try.func44, Try.ntmps44
  go_wp2
  go_loopw [1, 5] (fun kk i wr => ∃ j : Nat, j ≤ zs.length ∧ i = .int .i64 j ∧ kk = .int .i64 (k + j) ∧ wr.ownsRow base 3 1 (.slice A zs.length c) zs.length (ints (markTo k zs j)) ∧ w.grownBy wr (Value.ownBlock (.slice A zs.length c)))
    (fun _ i _ => zs.length - (intOf i).toNat)
  case atStart => exact ⟨0, Nat.zero_le _, rfl, by simp, by rw [markTo_zero]; exact HO.out, World.grownBy.refl _ _⟩
  case round =>
    obtain ⟨j, hj, rfl, rfl, hown, hgr⟩ := hrel
    have HO' := Lib.hid hown; have HG := Lib.hid hgr
    clear hown hgr
    by_cases hlt : j < zs.length
    · obtain ⟨g, rfl⟩ : ∃ g, A = some ⟨g, 0, none⟩ := by
        rcases HO'.out.2 with ⟨hv, h0⟩ | ⟨g, cap, cur, hv, _⟩
        · omega
        · simp only [Value.slice.injEq] at hv
          exact ⟨g, hv.1⟩
      have hold : wr.cell? ⟨g, j, none⟩ = some (.int .i64 ((markTo k zs j).getD j 0)) := by
        rw [World.ownsRow.cellAt HO'.out j (by omega)]; exact ints_get _ _ (by rw [markTo_length _ _ _ hj]; exact hlt)
      have hfz := HO'.out.frozenAt j
      have HS := Lib.hid (HO'.out.stored j (.int .i64 (k + j)))
      generalize hy : (markTo k zs j).getD j 0 = y at *
      clear hy
      go_wp2
      go_roundw
      case rel =>
        have h1 := HS.out.1
        rw [ints_set, markTo_set _ _ _ hlt] at h1
        exact ⟨j + 1, by omega, by go_num, by go_num, h1, grown_trans HG.out HS.out.2⟩
      case measure => simp [intOf]; omega
    · obtain rfl : j = zs.length := by omega
      go_wp2
      go_ret
      refine ⟨rfl, ?_, HG.out⟩
      have := HO'.out
      rwa [markTo_all _ _ _ rfl] at this

set_option maxHeartbeats 1000000 in
theorem heldIntS_any (A : Option Addr) (n c : Nat) (k : Int) (w : World) (hn : n ≤ 1048576) (h0 : 0 ≤ k) (h1 : k ≤ 1000000000) (hA : Rd w A (upFrom k n)) :
    Calls Try.prog 45 #[.slice A n c, .int .i64 k] w fun e w' => e = .returned (.int .i64 (k + n)) ∧ w = w' := by
  have HA := Lib.hid hA; clear hA
  go_enter Try.func45, Try.ntmps45
  go_wp2
  go_loop [1, 5] (fun kk i => ∃ j : Nat, j ≤ n ∧ i = .int .i64 j ∧ kk = .int .i64 (k + j)) (fun _ i => n - (intOf i).toNat)
  case atStart => exact ⟨0, Nat.zero_le _, rfl, by simp⟩
  case round =>
    obtain ⟨j, hj, rfl, rfl⟩ := hrel
    by_cases hlt : j < n
    · obtain ⟨b, o, rfl, hcell⟩ := HA.out j (by rw [upFrom_length]; exact hlt)
      rw [upFrom_get _ _ _ hlt] at hcell
      go_wp2
      go_round
      case rel => exact ⟨j + 1, by omega, by go_num, by go_num⟩
      case measure => simp [intOf]; omega
    · obtain rfl : j = n := by omega
      go_wp2
      go_ret
      exact ⟨rfl, rfl⟩

set_option maxHeartbeats 1000000 in
theorem markArena_any (A : Option Addr) (c base : Nat) (zs : List Int) (k : Int) (w : World) (hn : zs.length ≤ 1048576) (h0 : 0 ≤ k) (h1 : k ≤ 1000000000)
    (hown : w.ownsRow base 3 1 (.slice A zs.length c) zs.length (ints zs)) :
    Calls Try.prog 20 #[.agg #[.slice A zs.length c], .int .i64 k] w fun e w' => e = .returned (.int .i64 (k + zs.length)) ∧
      w'.ownsRow base 3 1 (.slice A zs.length c) zs.length (ints (upFrom k zs.length)) ∧ w.grownBy w' (Value.ownBlock (.slice A zs.length c)) := by
  have HO := Lib.hid hown; clear hown
  go_enter Try.func20, Try.ntmps20
  go_wp2_with fail
  refine (markIntS_any _ _ base zs _ _ hn h0 h1 (own_below HO.out (below_alloc _ _))).mono ?_
  rintro e w' ⟨rfl, hown, hgr⟩
  have HO' := Lib.hid hown; have HG := Lib.hid hgr
  clear hown hgr
  go_wp2
  go_ret
  exact ⟨rfl, HO'.out, grown_trans (grown_below _ (below_alloc _ _)) HG.out⟩

set_option maxHeartbeats 1000000 in
theorem heldArena_any (A : Option Addr) (n c : Nat) (k : Int) (w : World) (hn : n ≤ 1048576) (h0 : 0 ≤ k) (h1 : k ≤ 1000000000) (hA : Rd w A (upFrom k n)) :
    Calls Try.prog 21 #[.agg #[.slice A n c], .int .i64 k] w fun e w' => e = .returned (.int .i64 (k + n)) ∧ Below w.heap.size w w' := by
  have HA := Lib.hid hA; clear hA
  go_enter Try.func21, Try.ntmps21
  go_wp2_with fail
  refine (heldIntS_any _ _ _ _ _ hn h0 h1 (HA.out.below (below_alloc _ _))).mono ?_
  rintro e w' ⟨rfl, rfl⟩
  go_wp2
  go_ret
  exact ⟨rfl, below_alloc _ _⟩
end Go.Proofs.Ytabojajhnhcemaa

namespace Go.Proofs.Ytabojajhnhcemaa
open Go.RowKit

theorem row15 {w : World} {g : Nat} {c0 c1 c2 c3 c4 c5 c6 c7 c8 c9 c10 c11 c12 c13 c14 v0 v1 v2 v3 v4 v5 v6 v7 v8 v9 v10 v11 v12 v13 v14 : Value} (h : BoxT w g #[c0, c1, c2, c3, c4, c5, c6, c7, c8, c9, c10, c11, c12, c13, c14]) :
    (((((((((((((((w.setCell ⟨g, 0, none⟩ v0).setCell ⟨g, 1, none⟩ v1).setCell ⟨g, 2, none⟩ v2).setCell ⟨g, 3, none⟩ v3).setCell ⟨g, 4, none⟩ v4).setCell ⟨g, 5, none⟩ v5).setCell ⟨g, 6, none⟩ v6).setCell ⟨g, 7, none⟩ v7).setCell ⟨g, 8, none⟩ v8).setCell ⟨g, 9, none⟩ v9).setCell ⟨g, 10, none⟩ v10).setCell ⟨g, 11, none⟩ v11).setCell ⟨g, 12, none⟩ v12).setCell ⟨g, 13, none⟩ v13).setCell ⟨g, 14, none⟩ v14) = w.setRow g #[v0, v1, v2, v3, v4, v5, v6, v7, v8, v9, v10, v11, v12, v13, v14] := by
  rw [setCell_eq_setRow w g 0 _ _ _ v0 h]
  rw [setCell_eq_setRow _ g 1 _ _ _ v1 (h.row _), setRow_setRow]
  rw [setCell_eq_setRow _ g 2 _ _ _ v2 (h.row _), setRow_setRow]
  rw [setCell_eq_setRow _ g 3 _ _ _ v3 (h.row _), setRow_setRow]
  rw [setCell_eq_setRow _ g 4 _ _ _ v4 (h.row _), setRow_setRow]
  rw [setCell_eq_setRow _ g 5 _ _ _ v5 (h.row _), setRow_setRow]
  rw [setCell_eq_setRow _ g 6 _ _ _ v6 (h.row _), setRow_setRow]
  rw [setCell_eq_setRow _ g 7 _ _ _ v7 (h.row _), setRow_setRow]
  rw [setCell_eq_setRow _ g 8 _ _ _ v8 (h.row _), setRow_setRow]
  rw [setCell_eq_setRow _ g 9 _ _ _ v9 (h.row _), setRow_setRow]
  rw [setCell_eq_setRow _ g 10 _ _ _ v10 (h.row _), setRow_setRow]
  rw [setCell_eq_setRow _ g 11 _ _ _ v11 (h.row _), setRow_setRow]
  rw [setCell_eq_setRow _ g 12 _ _ _ v12 (h.row _), setRow_setRow]
  rw [setCell_eq_setRow _ g 13 _ _ _ v13 (h.row _), setRow_setRow]
  rw [setCell_eq_setRow _ g 14 _ _ _ v14 (h.row _), setRow_setRow]
  simp only [List.setIfInBounds_toArray, List.set_cons_zero, List.set_cons_succ]
theorem BoxT.rowOther {w : World} {k b : Nat} {cs : Array Value} (h : BoxT w k cs) (hk : k ≠ b) (bs : Array Value) : BoxT (w.setRow b bs) k cs := (setRow_other w b k bs hk).trans h
end Go.Proofs.Ytabojajhnhcemaa

namespace Go.Proofs.Ytabojajhnhcemaa
open Go.RowKit

/-- The laws' own thread in a block of its own. -/
def BoxL (w : World) (k : Nat) (cs : Array Value) : Prop := w.heap[k]? = some (.cells cs 42 (0, 0))
theorem BoxL.lt {w : World} {k : Nat} {cs : Array Value} (h : BoxL w k cs) : k < w.heap.size := (Array.getElem?_eq_some_iff.1 h).1
theorem BoxL.below {w w' : World} {k : Nat} {cs : Array Value} (h : BoxL w k cs) (hb : Below w.heap.size w w') : BoxL w' k cs := (hb.block k h.lt).trans h
theorem BoxL.new (w : World) (cs : Array Value) : BoxL (w.alloc (.cells cs 42)) w.heap.size cs := heap_alloc_new w _
theorem info_lth : (Try.prog.info? 42).map (·.size) = some 15 := by kernel_rfl
end Go.Proofs.Ytabojajhnhcemaa

namespace Go.Proofs.Ytabojajhnhcemaa
open Go.RowKit

theorem wpList_load_row_g {P : Program} {ops : Array Oper} {rest : List Oper} {o : Oper} {a : Act} {w : World} {Q : Exit → Act → World → Prop} (hw : Region.wanted o (yielded ops a.tmps) = true) (ty : TypeId) (x : Operand) (ho : o.op = .load ty x)
    (g : Nat) (hx : a.eval x = .pointer (some ⟨g, 0, none⟩)) (t : TypeId) (cs : Array Value) (fr : Nat × Nat) (d : TypeDesc) (hg : w.heap[g]? = some (.cells cs t fr))
    (hu : P.underlying ty = some d) (hd : (match d with | .struct _ | .array _ _ => true | _ => false) = true) (hi : (P.info? ty).map (·.size) = some cs.size)
    (h : wpList P ops Q rest (a.put o.dst (.agg cs)) w) : wpList P ops Q (o :: rest) a w :=
  wpList_step fun _ hK => by rw [if_pos hw]; exact wp_load_row ty x ho g hx t cs fr d hg hu hd hi (hK _ _ h)
end Go.Proofs.Ytabojajhnhcemaa
