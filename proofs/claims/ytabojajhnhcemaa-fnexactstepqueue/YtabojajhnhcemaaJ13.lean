/-
  A step of the queue under way: the block that holds it; the program's small functions over it.
  Threads: contracts of the laws' own helpers: toIntA5, toThread, eqIntA5, eqThread.
  Threads: contracts of the laws' own helpers: toThread, eqThread.
  For the laws of steps: boxes that are stored into.
  NodeRef, NodeAt, ItemWaits: the program's and the model's.
  Steps of the model, by Pc.
  Steps of the model, by Pc.
-/
import Derived.Test.YtabojajhnhcemaaJ10
import Derived.Test.YtabojajhnhcemaaJ12
import Derived.Test.YtabojajhnhcemaaJ01
import Derived.Test.YtabojajhnhcemaaJ07
import Derived.Deep.DeepCutAuto
namespace Go.Proofs.Ytabojajhnhcemaa
open Go.RowKit

/-- A step under way in a block of its own. -/
def BoxQ (w : World) (k : Nat) (cs : Array Value) : Prop := w.heap[k]? = some (.cells cs 60 (0, 0))
theorem BoxQ.lt {w : World} {k : Nat} {cs : Array Value} (h : BoxQ w k cs) : k < w.heap.size := (Array.getElem?_eq_some_iff.1 h).1
theorem BoxQ.below {w w' : World} {k : Nat} {cs : Array Value} (h : BoxQ w k cs) (hb : Below w.heap.size w w') : BoxQ w' k cs := (hb.block k h.lt).trans h
theorem BoxQ.cell {w : World} {k : Nat} {cs : Array Value} (h : BoxQ w k cs) (j : Nat) : w.cell? ⟨k, j, none⟩ = cs[j]? := cell_of_row w k j cs _ _ h
theorem BoxQ.froz {w : World} {k : Nat} {cs : Array Value} (h : BoxQ w k cs) (j : Nat) : w.frozen? ⟨k, j, none⟩ = false := frozen_of_row w k j cs _ h
theorem BoxQ.set {w : World} {k : Nat} {cs : Array Value} (h : BoxQ w k cs) (i : Nat) (v : Value) : BoxQ (w.setCell ⟨k, i, none⟩ v) k (cs.setIfInBounds i v) := heap_setCell_same w k i cs _ v h
theorem BoxQ.row {w : World} {k : Nat} {cs : Array Value} (h : BoxQ w k cs) (bs : Array Value) : BoxQ (w.setRow k bs) k bs := setRow_heap w k cs bs _ _ h
theorem BoxQ.drew {w : World} {k : Nat} {cs : Array Value} (h : BoxQ w k cs) : BoxQ w.drew k cs := h
/-- A row of integers never lies in such a block. -/
theorem BoxQ.ne_own {w : World} {k base n : Nat} {cs : Array Value} {u : Value} {xs : List Value} (h : BoxQ w k cs) (ho : w.ownsRow base 3 1 u n xs) : u.ownBlock = none ∨ u.ownBlock ≠ some k := by
  rcases ho.2 with ⟨rfl, _⟩ | ⟨g', cap, cur, rfl, _, hh, _⟩
  · left; simp [Value.ownBlock]
  · right; intro he
    have : g' = k := by simpa [Value.ownBlock] using he
    subst this
    unfold BoxQ at h
    rw [h] at hh
    injection hh with hh
    injection hh with _ ht
    exact absurd ht (by decide)
theorem grown_set {w w' : World} {k : Nat} (h : w.grownBy w' (some k)) (j : Nat) (v : Value) : w.grownBy (w'.setCell ⟨k, j, none⟩ v) (some k) :=
  ⟨h.os, h.tape, h.output, by rw [World.size_setCell]; exact h.size, fun i hi hr => (heap_setCell_other _ _ _ _ (by intro e; exact hr (by rw [e]))).trans (h.block i hi hr)⟩
theorem grown_row {w w' : World} {k : Nat} (h : w.grownBy w' (some k)) (bs : Array Value) : w.grownBy (w'.setRow k bs) (some k) :=
  ⟨h.os, h.tape, h.output, by rw [setRow_size]; exact h.size, fun i hi hr => (setRow_other _ _ _ _ (by intro e; exact hr (by rw [e]))).trans (h.block i hi hr)⟩
theorem grown_refl (w : World) (row : Option Nat) : w.grownBy w row := ⟨rfl, rfl, rfl, Nat.le_refl _, fun _ _ _ => rfl⟩

/-- A step under way whose arena is ours, from a world on. -/
structure Q (w0 wi : World) (k lo : Nat) (B : Option Addr) (d : Nat) (L : List Int) (cs : Array Value) : Prop where
  box : BoxQ wi k cs
  own : NewA lo wi B d L
  gr : w0.grownBy wi (some k)
theorem Q.start {w : World} {k lo : Nat} {B : Option Addr} {d : Nat} {L : List Int} {cs : Array Value} (h : BoxQ w k cs) (ho : NewA lo w B d L) : Q w w k lo B d L cs := ⟨h, ho, grown_refl _ _⟩
theorem Q.below {w0 wi wj : World} {k lo : Nat} {B : Option Addr} {d : Nat} {L : List Int} {cs : Array Value} (h : Q w0 wi k lo B d L cs) (hb : Below wi.heap.size wi wj) : Q w0 wj k lo B d L cs :=
  ⟨h.box.below hb, h.own.below hb, grown_trans h.gr (grown_below _ hb)⟩
theorem Q.drew {w0 wi : World} {k lo : Nat} {B : Option Addr} {d : Nat} {L : List Int} {cs : Array Value} (h : Q w0 wi k lo B d L cs) : Q w0 wi.drew k lo B d L cs := ⟨h.box, h.own, grown_drew h.gr⟩
theorem Q.then {w0 wi wj : World} {k lo : Nat} {B B' : Option Addr} {d d' : Nat} {L L' : List Int} {cs cs' : Array Value} (h : Q w0 wi k lo B d L cs) (g : Q wi wj k lo B' d' L' cs') : Q w0 wj k lo B' d' L' cs' :=
  ⟨g.box, g.own, grown_trans h.gr g.gr⟩
theorem Q.thenDrew {w0 wi wj : World} {k lo : Nat} {B B' : Option Addr} {d d' : Nat} {L L' : List Int} {cs cs' : Array Value} (h : Q w0 wi k lo B d L cs) (g : Q wi.drew wj k lo B' d' L' cs') : Q w0 wj k lo B' d' L' cs' :=
  h.drew.then g
theorem NewA.setQ {lo : Nat} {w : World} {B : Option Addr} {d k : Nat} {L : List Int} {cs : Array Value} (ho : NewA lo w B d L) (h : BoxQ w k cs) (j : Nat) (v : Value) : NewA lo (w.setCell ⟨k, j, none⟩ v) B d L :=
  ho.kept (grown_set (grown_refl w (some k)) j v) (h.ne_own ho)
theorem Q.set {w0 wi : World} {k lo : Nat} {B : Option Addr} {d : Nat} {L : List Int} {cs : Array Value} (h : Q w0 wi k lo B d L cs) (j : Nat) (v : Value) : Q w0 (wi.setCell ⟨k, j, none⟩ v) k lo B d L (cs.setIfInBounds j v) :=
  ⟨h.box.set j v, h.own.setQ h.box j v, grown_set h.gr j v⟩
theorem Q.row {w0 wi : World} {k lo : Nat} {B : Option Addr} {d : Nat} {L : List Int} {cs : Array Value} (h : Q w0 wi k lo B d L cs) (bs : Array Value) : Q w0 (wi.setRow k bs) k lo B d L bs :=
  ⟨h.box.row bs, h.own.kept (grown_row (grown_refl wi (some k)) bs) (h.box.ne_own h.own), grown_row h.gr bs⟩
/-- The arena's place in it is set. -/
theorem Q.arena {w0 wi : World} {k lo : Nat} {B B' : Option Addr} {d d' : Nat} {L L' : List Int} {cs : Array Value} (h : Q w0 wi k lo B d L cs) (ho : NewA lo wi B' d' L') (v : Value) : Q w0 (wi.setCell ⟨k, 0, none⟩ v) k lo B' d' L' (cs.setIfInBounds 0 v) :=
  ⟨h.box.set 0 v, ho.setQ h.box 0 v, grown_set h.gr 0 v⟩
theorem Q.rd {w0 wi : World} {k lo : Nat} {B : Option Addr} {d : Nat} {L : List Int} {cs : Array Value} (h : Q w0 wi k lo B d L cs) : Rd wi B L := h.own.rd

set_option maxHeartbeats 1000000 in
theorem qload_any (A : Option Addr) (c : Nat) (zs : List Int) (p : Int) (w : World) (_hn : zs.length ≤ 1048576) (h0 : zs.getD 0 0 = 0) (hA : Rd w A zs) :
    Calls Try.prog 59 #[.agg #[.slice A zs.length c], .int .i64 p] w fun e w' => e = .returned (.int .i64 (loadZ zs p)) ∧ Below w.heap.size w w' := by
  have HA := Lib.hid (hA.below (below_alloc w (.cells #[.slice A zs.length c] 25))); clear hA
  by_cases hp : p < 0
  · have HV : Hid (loadZ zs p = 0) := by unfold loadZ; rw [if_neg (by rw [inB_iff]; omega)]; rfl
    have hd : decide (p < 0) = true := decide_eq_true hp
    clear h0
    go_enter Try.func59, Try.ntmps59
    go_wp2
    go_ret
    exact ⟨ret_int HV.out.symm, below_alloc _ _⟩
  · have hd : decide (p < 0) = false := decide_eq_false hp
    by_cases hq : (zs.length : Int) ≤ p
    · have HV : Hid (loadZ zs p = 0) := by unfold loadZ; rw [if_neg (by rw [inB_iff]; omega)]; rfl
      have hd2 : decide ((zs.length : Int) ≤ p) = true := decide_eq_true hq
      clear h0
      go_enter Try.func59, Try.ntmps59
      go_wp2
      go_ret
      exact ⟨ret_int HV.out.symm, below_alloc _ _⟩
    · obtain ⟨k, rfl⟩ := Int.eq_ofNat_of_zero_le (by omega : 0 ≤ p)
      have hk : k < zs.length := by omega
      have HV : Hid (loadZ zs k = zs.getD k 0) := by
        unfold loadZ
        by_cases hz : k = 0
        · subst hz; rw [if_neg (by rw [inB_iff]; omega)]; exact h0.symm
        · rw [if_pos (by rw [inB_iff]; omega), Int.toNat_natCast]; rfl
      have hd2 : decide ((zs.length : Int) ≤ (k : Int)) = false := decide_eq_false hq
      obtain ⟨b, o, rfl, hcell⟩ := HA.out k hk
      clear h0
      generalize hx : zs.getD k 0 = x at *
      clear hx
      go_enter Try.func59, Try.ntmps59
      go_wp2
      go_ret
      exact ⟨ret_int HV.out.symm, below_alloc _ _⟩

set_option maxHeartbeats 1000000 in
theorem qIsPut_any (v : Value) (id st op arg pc til : Int) (per can : Bool) (r0 r1 r2 r3 r4 code res : Int) (now wk : Int) (k : Nat) (w : World) (hQ : BoxQ w k #[v, .int .i64 id, .int .i64 st, .int .i64 op, .int .i64 arg, .int .i64 pc, .int .i64 til, .bool per, .bool can, .int .i64 r0, .int .i64 r1, .int .i64 r2, .int .i64 r3, .int .i64 r4, .int .i64 code, .int .i64 res, .int .i64 now, .int .i64 wk]) :
    Calls Try.prog 61 #[.pointer (some ⟨k, 0, none⟩)] w fun e w' => e = .returned (.bool (mineB op)) ∧ w = w' := by
  unfold mineB
  have hc := hQ.cell
  clear hQ
  go_enter Try.func61, Try.ntmps61
  go_wp2
  go_ret
  exact ⟨rfl, rfl⟩

set_option maxHeartbeats 1000000 in
theorem qFirst_any (v : Value) (id st op arg pc til : Int) (per can : Bool) (r0 r1 r2 r3 r4 code res : Int) (now wk : Int) (k : Nat) (w : World) (ha : -1000000000000 ≤ arg ∧ arg ≤ 1000000000000) (hQ : BoxQ w k #[v, .int .i64 id, .int .i64 st, .int .i64 op, .int .i64 arg, .int .i64 pc, .int .i64 til, .bool per, .bool can, .int .i64 r0, .int .i64 r1, .int .i64 r2, .int .i64 r3, .int .i64 r4, .int .i64 code, .int .i64 res, .int .i64 now, .int .i64 wk]) :
    Calls Try.prog 69 #[.pointer (some ⟨k, 0, none⟩)] w fun e w' => e = .returned (.int .i64 (firstI op arg)) ∧ w = w' := by
  have hq : IntKind.i64.wrap (arg + 1) = arg + 1 := IntWalk.i64_in _ (by omega)
  have hc := hQ.cell
  have HQ := Lib.hid hQ; clear hQ
  by_cases ho : op = 1
  · subst ho
    have hm : mineB 1 = true := rfl
    go_enter Try.func69, Try.ntmps69
    go_wp2_with fail
    refine (qIsPut_any _ _ _ _ _ _ _ _ _ _ _ _ _ _ _ _ _ _ _ _ HQ.out).mono ?_
    rintro e w1 ⟨rfl, rfl⟩
    go_wp2
    go_ret
    exact ⟨rfl, rfl⟩
  · have hm : mineB op = false := by unfold mineB; simp [ho]
    have HV : Hid (firstI op arg = 0) := by unfold firstI; rw [if_neg ho]; rfl
    go_enter Try.func69, Try.ntmps69
    go_wp2_with fail
    refine (qIsPut_any _ _ _ _ _ _ _ _ _ _ _ _ _ _ _ _ _ _ _ _ HQ.out).mono ?_
    rintro e w1 ⟨rfl, rfl⟩
    go_wp2
    go_ret
    exact ⟨ret_int HV.out.symm, rfl⟩

set_option maxHeartbeats 1000000 in
theorem qChoose_any (b : Bool) (y n m : Int) (hm : (if b = true then y else n) = m) (id st op arg pc til : Int) (per can : Bool) (r0 r1 r2 r3 r4 code res : Int) (now wk : Int) (k lo : Nat) (w : World) (A : Option Addr) (c : Nat) (zs : List Int) (hQ : BoxQ w k #[.slice A zs.length c, .int .i64 id, .int .i64 st, .int .i64 op, .int .i64 arg, .int .i64 pc, .int .i64 til, .bool per, .bool can, .int .i64 r0, .int .i64 r1, .int .i64 r2, .int .i64 r3, .int .i64 r4, .int .i64 code, .int .i64 res, .int .i64 now, .int .i64 wk]) (hA : NewA lo w A c zs) :
    Calls Try.prog 62 #[.pointer (some ⟨k, 0, none⟩), .bool b, .int .i64 y, .int .i64 n] w fun e w' => e = .returned (.tuple #[]) ∧ Q w w' k lo A c zs #[.slice A zs.length c, .int .i64 id, .int .i64 st, .int .i64 op, .int .i64 arg, .int .i64 m, .int .i64 til, .bool per, .bool can, .int .i64 r0, .int .i64 r1, .int .i64 r2, .int .i64 r3, .int .i64 r4, .int .i64 code, .int .i64 res, .int .i64 now, .int .i64 wk] := by
  subst hm
  have hc := hQ.cell
  have hf := hQ.froz
  have HQ := Lib.hid (Q.start hQ hA); clear hQ hA
  cases b
  · go_enter Try.func62, Try.ntmps62
    go_wp2
    exact bodyPost_end (results_none rfl _ _ _) rfl ⟨rfl, HQ.out.set 5 _⟩
  · go_enter Try.func62, Try.ntmps62
    go_wp2
    exact bodyPost_end (results_none rfl _ _ _) rfl ⟨rfl, HQ.out.set 5 _⟩
end Go.Proofs.Ytabojajhnhcemaa

namespace Go.Proofs.Ytabojajhnhcemaa
open Go.RowKit

def five (a0 a1 a2 a3 a4 : Int) : Array Value := #[.int .i64 a0, .int .i64 a1, .int .i64 a2, .int .i64 a3, .int .i64 a4]
/-- How far an array is copied. -/
def CopyRel (w : World) (a0 a1 a2 a3 a4 : Int) (i : Value) (wr : World) : Prop :=
  (i = .int .i64 0 ∧ wr = w.alloc (.cells #[.int .i64 0, .int .i64 0, .int .i64 0, .int .i64 0, .int .i64 0] 27)) ∨
  (i = .int .i64 1 ∧ wr = w.alloc (.cells #[.int .i64 a0, .int .i64 0, .int .i64 0, .int .i64 0, .int .i64 0] 27)) ∨
  (i = .int .i64 2 ∧ wr = w.alloc (.cells #[.int .i64 a0, .int .i64 a1, .int .i64 0, .int .i64 0, .int .i64 0] 27)) ∨
  (i = .int .i64 3 ∧ wr = w.alloc (.cells #[.int .i64 a0, .int .i64 a1, .int .i64 a2, .int .i64 0, .int .i64 0] 27)) ∨
  (i = .int .i64 4 ∧ wr = w.alloc (.cells #[.int .i64 a0, .int .i64 a1, .int .i64 a2, .int .i64 a3, .int .i64 0] 27)) ∨
  (i = .int .i64 5 ∧ wr = w.alloc (.cells #[.int .i64 a0, .int .i64 a1, .int .i64 a2, .int .i64 a3, .int .i64 a4] 27))

set_option maxHeartbeats 1000000 in
theorem toIntA5_exact (a0 a1 a2 a3 a4 : Int) (w : World) : Calls Try.prog 41 #[.agg #[.int .i64 a0, .int .i64 a1, .int .i64 a2, .int .i64 a3, .int .i64 a4]] w fun e w' => e = .returned (.agg #[.int .i64 a0, .int .i64 a1, .int .i64 a2, .int .i64 a3, .int .i64 a4]) ∧
    ((w.alloc (.cells #[.int .i64 a0, .int .i64 a1, .int .i64 a2, .int .i64 a3, .int .i64 a4] 27)).alloc (.cells #[.int .i64 a0, .int .i64 a1, .int .i64 a2, .int .i64 a3, .int .i64 a4] 27)).alloc (.cells #[.int .i64 a0, .int .i64 a1, .int .i64 a2, .int .i64 a3, .int .i64 a4] 27) = w' := by
  go_enter Try.func41, Try.ntmps41
  go_wp2
  go_loopw [4] (fun i wr => CopyRel ((w.alloc (.cells #[.int .i64 a0, .int .i64 a1, .int .i64 a2, .int .i64 a3, .int .i64 a4] 27)).alloc (.cells #[.int .i64 0, .int .i64 0, .int .i64 0, .int .i64 0, .int .i64 0] 27)) a0 a1 a2 a3 a4 i wr) (fun i _ => 5 - (intOf i).toNat)
  case atStart => exact .inl ⟨rfl, rfl⟩
  case round =>
    rcases hrel with ⟨rfl, rfl⟩ | ⟨rfl, rfl⟩ | ⟨rfl, rfl⟩ | ⟨rfl, rfl⟩ | ⟨rfl, rfl⟩ | ⟨rfl, rfl⟩
    · go_wp2
      go_roundw
      case rel => exact .inr (.inl ⟨rfl, rfl⟩)
      case measure => simp [intOf]
    · go_wp2
      go_roundw
      case rel => exact .inr (.inr (.inl ⟨rfl, rfl⟩))
      case measure => simp [intOf]
    · go_wp2
      go_roundw
      case rel => exact .inr (.inr (.inr (.inl ⟨rfl, rfl⟩)))
      case measure => simp [intOf]
    · go_wp2
      go_roundw
      case rel => exact .inr (.inr (.inr (.inr (.inl ⟨rfl, rfl⟩))))
      case measure => simp [intOf]
    · go_wp2
      go_roundw
      case rel => exact .inr (.inr (.inr (.inr (.inr ⟨rfl, rfl⟩))))
      case measure => simp [intOf]
    · go_wp2
      exact bodyPost_ret (v := .agg #[.int .i64 a0, .int .i64 a1, .int .i64 a2, .int .i64 a3, .int .i64 a4]) (by simp [results, Try.results41, go_sem]) rfl ⟨rfl, rfl⟩

/-- How far two arrays are compared. -/
def EqRel (w : World) (i : Value) (wr : World) : Prop := ∃ q : Nat, wr = w.drewN q ∧ (i = .int .i64 0 ∨ i = .int .i64 1 ∨ i = .int .i64 2 ∨ i = .int .i64 3 ∨ i = .int .i64 4 ∨ i = .int .i64 5)

set_option maxHeartbeats 1000000 in
theorem eqIntA5_same (a0 a1 a2 a3 a4 : Int) (w : World) : Calls Try.prog 43 #[.agg #[.int .i64 a0, .int .i64 a1, .int .i64 a2, .int .i64 a3, .int .i64 a4], .agg #[.int .i64 a0, .int .i64 a1, .int .i64 a2, .int .i64 a3, .int .i64 a4]] w fun e w' => e = .returned (.bool true) ∧ Below w.heap.size w w' := by
  go_enter Try.func43, Try.ntmps43
  go_wp2
  go_loopw [5] (fun i wr => EqRel ((w.alloc (.cells #[.int .i64 a0, .int .i64 a1, .int .i64 a2, .int .i64 a3, .int .i64 a4] 27)).alloc (.cells #[.int .i64 a0, .int .i64 a1, .int .i64 a2, .int .i64 a3, .int .i64 a4] 27)) i wr) (fun i _ => 5 - (intOf i).toNat)
  case atStart => exact ⟨0, rfl, .inl rfl⟩
  case round =>
    obtain ⟨q, rfl, hi⟩ := hrel
    rcases hi with rfl | rfl | rfl | rfl | rfl | rfl
    · go_wp2
      go_region
      all_goals
        go_wp2
        go_roundw
        case rel => exact ⟨q + 1, rfl, .inr (.inl rfl)⟩
        case measure => simp [intOf]
    · go_wp2
      go_region
      all_goals
        go_wp2
        go_roundw
        case rel => exact ⟨q + 1, rfl, .inr (.inr (.inl rfl))⟩
        case measure => simp [intOf]
    · go_wp2
      go_region
      all_goals
        go_wp2
        go_roundw
        case rel => exact ⟨q + 1, rfl, .inr (.inr (.inr (.inl rfl)))⟩
        case measure => simp [intOf]
    · go_wp2
      go_region
      all_goals
        go_wp2
        go_roundw
        case rel => exact ⟨q + 1, rfl, .inr (.inr (.inr (.inr (.inl rfl))))⟩
        case measure => simp [intOf]
    · go_wp2
      go_region
      all_goals
        go_wp2
        go_roundw
        case rel => exact ⟨q + 1, rfl, .inr (.inr (.inr (.inr (.inr rfl))))⟩
        case measure => simp [intOf]
    · go_wp2
      go_ret
      exact ⟨rfl, below_trans (below_alloc2 _ _ _) (below_drewN _)⟩
end Go.Proofs.Ytabojajhnhcemaa

namespace Go.Proofs.Ytabojajhnhcemaa
open Go.RowKit

set_option maxHeartbeats 4000000 in
theorem toThread_any (id st op arg pc til : Int) (per can : Bool) (r0 r1 r2 r3 r4 code res : Int) (w : World) : Calls Try.prog 17 #[.agg #[.int .i64 id, .int .i64 st, .int .i64 op, .int .i64 arg, .int .i64 pc, .int .i64 til, .bool per, .bool can, .int .i64 r0, .int .i64 r1, .int .i64 r2, .int .i64 r3, .int .i64 r4, .int .i64 code, .int .i64 res]] w fun e w' => e = .returned (.agg #[.int .i64 id, .int .i64 st, .int .i64 op, .int .i64 arg, .int .i64 pc, .int .i64 til, .bool per, .bool can, .int .i64 r0, .int .i64 r1, .int .i64 r2, .int .i64 r3, .int .i64 r4, .int .i64 code, .int .i64 res]) ∧ Below w.heap.size w w' := by
  go_enter Try.func17, Try.ntmps17
  go_wp2_with (go_at_call 41; refine (toIntA5_exact _ _ _ _ _ _).mono ?_; rintro e w' ⟨rfl, rfl⟩)
  refine bodyPost_ret (v := .agg #[.int .i64 id, .int .i64 st, .int .i64 op, .int .i64 arg, .int .i64 pc, .int .i64 til, .bool per, .bool can, .int .i64 r0, .int .i64 r1, .int .i64 r2, .int .i64 r3, .int .i64 r4, .int .i64 code, .int .i64 res]) (by simp [results, Try.results17, go_sem]) rfl ⟨rfl, ?_⟩
  exact below_trans (below_alloc3 _ _ _ _) (below_alloc3 _ _ _ _)

set_option maxHeartbeats 4000000 in
theorem eqThread_same (id st op arg pc til : Int) (per can : Bool) (r0 r1 r2 r3 r4 code res : Int) (w : World) : Calls Try.prog 19 #[.agg #[.int .i64 id, .int .i64 st, .int .i64 op, .int .i64 arg, .int .i64 pc, .int .i64 til, .bool per, .bool can, .int .i64 r0, .int .i64 r1, .int .i64 r2, .int .i64 r3, .int .i64 r4, .int .i64 code, .int .i64 res], .agg #[.int .i64 id, .int .i64 st, .int .i64 op, .int .i64 arg, .int .i64 pc, .int .i64 til, .bool per, .bool can, .int .i64 r0, .int .i64 r1, .int .i64 r2, .int .i64 r3, .int .i64 r4, .int .i64 code, .int .i64 res]] w fun e w' => e = .returned (.bool true) ∧ Below w.heap.size w w' := by
  go_enter Try.func19, Try.ntmps19
  go_wp2_with (go_at_call 43; refine (eqIntA5_same _ _ _ _ _ _).mono ?_; rintro e w1 ⟨rfl, hb⟩; obtain ⟨hc, hf⟩ := bcell hb; have HB := Lib.hid hb; clear hb)
  go_ret
  exact ⟨rfl, below_trans (below_alloc2 _ _ _) HB.out⟩
end Go.Proofs.Ytabojajhnhcemaa

namespace Go.Proofs.Ytabojajhnhcemaa
open Go.RowKit

theorem BoxT.ne_own {w : World} {k base n : Nat} {cs : Array Value} {u : Value} {xs : List Value} (h : BoxT w k cs) (ho : w.ownsRow base 3 1 u n xs) : u.ownBlock = none ∨ u.ownBlock ≠ some k := by
  rcases ho.2 with ⟨rfl, _⟩ | ⟨g', cap, cur, rfl, _, hh, _⟩
  · left; simp [Value.ownBlock]
  · right; intro he
    have : g' = k := by simpa [Value.ownBlock] using he
    subst this
    unfold BoxT at h
    rw [h] at hh
    injection hh with hh
    injection hh with _ ht
    exact absurd ht (by decide)
theorem boxT_ne {w : World} {k base n : Nat} {cs : Array Value} {u : Value} {xs : List Value} (h : BoxT w k cs) (ho : w.ownsRow base 3 1 u n xs) : some k ≠ u.ownBlock := by
  intro e
  rcases h.ne_own ho with h1 | h1
  · rw [h1] at e; cases e
  · exact h1 e.symm
theorem boxA_ne_boxT {w : World} {k j : Nat} {v : Value} {cs : Array Value} (h : BoxA w k v) (g : BoxT w j cs) : k ≠ j := by
  rintro rfl
  unfold BoxA at h
  unfold BoxT at g
  rw [h] at g
  injection g with g
  injection g with _ ht
  exact absurd ht (by decide)
theorem BoxA.row {w : World} {k : Nat} {v : Value} (h : BoxA w k v) (u : Value) : BoxA (w.setRow k #[u]) k u := setRow_heap w k #[v] #[u] _ _ h
theorem BoxA.rowOther {w : World} {k b : Nat} {v : Value} (h : BoxA w k v) (hk : k ≠ b) (bs : Array Value) : BoxA (w.setRow b bs) k v := (setRow_other w b k bs hk).trans h
theorem NewA.rowA {lo : Nat} {w : World} {B : Option Addr} {d k : Nat} {L : List Int} {v : Value} (ho : NewA lo w B d L) (h : BoxA w k v) (bs : Array Value) : NewA lo (w.setRow k bs) B d L :=
  ho.kept (grown_row (grown_refl w (some k)) bs) (Or.inr fun e => h.ne_own ho e.symm)
theorem NewA.rowT {lo : Nat} {w : World} {B : Option Addr} {d k : Nat} {L : List Int} {cs : Array Value} (ho : NewA lo w B d L) (h : BoxT w k cs) (bs : Array Value) : NewA lo (w.setRow k bs) B d L :=
  ho.kept (grown_row (grown_refl w (some k)) bs) (h.ne_own ho)
theorem boxT_grown {w w' : World} {k : Nat} {cs : Array Value} {row : Option Nat} (h : BoxT w k cs) (hg : w.grownBy w' row) (hne : some k ≠ row) : BoxT w' k cs := (hg.block k h.lt hne).trans h
theorem below_drew0 (w : World) : Below w.heap.size w w.drew := ⟨rfl, rfl, rfl, Nat.le_refl _, fun _ _ => rfl⟩
theorem info_ar : (Try.prog.info? 25).map (·.size) = some 1 := by kernel_rfl
theorem BoxA.one (A : Option Addr) (n c : Nat) : (#[.slice A n c] : Array Value).all (·.oneCell') = true := by simp [Value.oneCell']
theorem BoxL.cell {w : World} {k : Nat} {cs : Array Value} (h : BoxL w k cs) (j : Nat) : w.cell? ⟨k, j, none⟩ = cs[j]? := cell_of_row w k j cs _ _ h
end Go.Proofs.Ytabojajhnhcemaa

namespace Go.Proofs.Ytabojajhnhcemaa
open Go.RowKit

theorem refB_in {n : Int} {b : Bool} (h : inB n 1 399 = true) : refB n b = (2 * n + bitI b, 0) := by unfold refB; rw [if_pos h]
theorem refB_out {n : Int} {b : Bool} (h : inB n 1 399 = false) : refB n b = (0, 4) := by unfold refB; rw [h]; rfl
theorem nodeB_in {r : Int} (h : inB r 2 799 = true) : nodeB r = (halfI r, bringsR r, 0) := by unfold nodeB; rw [if_pos h]; rfl
theorem nodeB_out {r : Int} (h : inB r 2 799 = false) : nodeB r = (0, false, 4) := by unfold nodeB; rw [h]; rfl

set_option maxHeartbeats 400000 in
theorem implNodeRef_any (n : Int) (b : Bool) (w : World) (x c : Int) (hX : refB n b = (x, c)) : Calls Try.prog 93 #[.int .i64 n, .bool b] w fun e w' => e = .returned (.tuple #[.int .i64 x, .int .i64 c]) ∧ w = w' := by
  have hb := bitI_bounds b
  cases h : inB n 1 399
  · rw [refB_out h] at hX
    cases hX
    have hn := inB_false h
    clear h hb
    by_cases h1 : 1 ≤ n
    · have h2 : 400 ≤ n := by omega
      clear hn
      go_enter Try.func93, Try.ntmps93
      go_wp2
      refine bodyPost_ret (v := .tuple #[.int .i64 0, .int .i64 4]) (by simp [results, Try.results93, go_sem]) rfl ⟨rfl, rfl⟩
    · have h2 : n < 1 := by omega
      clear hn h1
      go_enter Try.func93, Try.ntmps93
      go_wp2
      refine bodyPost_ret (v := .tuple #[.int .i64 0, .int .i64 4]) (by simp [results, Try.results93, go_sem]) rfl ⟨rfl, rfl⟩
  · rw [refB_in h] at hX
    cases hX
    obtain ⟨h1, h2⟩ := inB_true h
    have q1 : IntKind.i64.wrap (2 * n) = 2 * n := IntWalk.i64_in _ (by omega)
    have q2 : IntKind.i64.wrap (2 * n + bitI b) = 2 * n + bitI b := IntWalk.i64_in _ (by omega)
    clear h hb
    go_enter Try.func93, Try.ntmps93
    go_wp2_with (go_at_call 60; refine (kindBit_any _ _).mono ?_; rintro e w' ⟨rfl, rfl⟩)
    refine bodyPost_ret (v := .tuple #[.int .i64 (2 * n + bitI b), .int .i64 0]) (by simp [results, Try.results93, go_sem]) rfl ⟨rfl, rfl⟩

set_option maxHeartbeats 400000 in
theorem l04Ref_any (n : Int) (b : Bool) (w : World) (hn : 0 ≤ n ∧ n ≤ 1000000) : Calls Try.prog 86 #[.int .i64 n, .bool b] w fun e w' => e = .returned (.int .i64 (2 * n + bitI b)) ∧ w = w' := by
  have hb := bitI_bounds b
  have q1 : IntKind.i64.wrap (2 * n) = 2 * n := IntWalk.i64_in _ (by omega)
  have q2 : IntKind.i64.wrap (2 * n + bitI b) = 2 * n + bitI b := IntWalk.i64_in _ (by omega)
  go_enter Try.func86, Try.ntmps86
  go_wp2_with (go_at_call 49; refine (bitOf_any _ _).mono ?_; rintro e w' ⟨rfl, rfl⟩)
  go_ret
  exact ⟨rfl, rfl⟩
set_option maxHeartbeats 400000 in
theorem implItemWaits_any (b : Bool) (n : Int) (w : World) : Calls Try.prog 96 #[.bool b, .int .i64 n] w fun e w' => e = .returned (.bool (waitsB b n)) ∧ w = w' := by
  cases b
  · by_cases h : n = 0
    · subst h
      go_enter Try.func96, Try.ntmps96
      go_wp2
      go_ret
      exact ⟨rfl, rfl⟩
    · go_enter Try.func96, Try.ntmps96
      go_wp2
      go_ret
      exact ⟨by simp [waitsB, h], rfl⟩
  · by_cases h : 0 < n
    all_goals
      go_enter Try.func96, Try.ntmps96
      go_wp2
      go_ret
      exact ⟨by simp [waitsB, h], rfl⟩

set_option maxHeartbeats 400000 in
theorem specItemWaits_any (b : Bool) (n : Int) (w : World) : Calls Try.prog 110 #[.bool b, .int .i64 n] w fun e w' => e = .returned (.bool (waitsB b n)) ∧ w = w' := by
  cases b
  · by_cases h : n = 0
    · subst h
      go_enter Try.func110, Try.ntmps110
      go_wp2
      go_ret
      exact ⟨rfl, rfl⟩
    · go_enter Try.func110, Try.ntmps110
      go_wp2
      go_ret
      exact ⟨by simp [waitsB, h], rfl⟩
  · by_cases h : 0 < n
    all_goals
      go_enter Try.func110, Try.ntmps110
      go_wp2
      go_ret
      exact ⟨by simp [waitsB, h], rfl⟩


end Go.Proofs.Ytabojajhnhcemaa

namespace Go.Proofs.Ytabojajhnhcemaa
open Go.RowKit

set_option maxHeartbeats 16000000 in
set_option maxRecDepth 100000 in
theorem join0 (id : Int) (st : Int) (op : Int) (arg : Int) (til : Int) (per : Bool) (can : Bool) (r0 : Int) (r1 : Int) (r2 : Int) (r3 : Int) (r4 : Int) (code : Int) (res : Int) (A : Option Addr) (c : Nat) (zs : List Int) (now : Int) (x : Int) (w : World) (hn : zs.length ≤ 1048576) (hA : Rd w A zs) (hx : loadZ zs 2 = x) :
    Calls Try.prog 76 #[.agg #[.slice A zs.length c], .agg #[.int .i64 id, .int .i64 st, .int .i64 op, .int .i64 arg, .int .i64 0, .int .i64 til, .bool per, .bool can, .int .i64 r0, .int .i64 r1, .int .i64 r2, .int .i64 r3, .int .i64 r4, .int .i64 code, .int .i64 res], .int .i64 now] w fun e w' => e = .returned (.tuple #[.agg #[.slice A zs.length c], .agg #[.int .i64 id, .int .i64 st, .int .i64 op, .int .i64 arg, .int .i64 1, .int .i64 til, .bool per, .bool can, .int .i64 x, .int .i64 r1, .int .i64 r2, .int .i64 r3, .int .i64 r4, .int .i64 code, .int .i64 res]]) ∧ Below w.heap.size w w' := by
  have HF := Lib.hid (Fr.start w A c zs #[.int .i64 id, .int .i64 st, .int .i64 op, .int .i64 arg, .int .i64 0, .int .i64 til, .bool per, .bool can, .int .i64 r0, .int .i64 r1, .int .i64 r2, .int .i64 r3, .int .i64 r4, .int .i64 code, .int .i64 res] hA)
  have HA := Lib.hid hA; clear hA
  have HX := Lib.hid hx; clear hx
  go_enter Try.func76, Try.ntmps76
  go_wp2_with fail
  refine (l04Mine_any _ _ _ _ _ _ _ _ _ _ _ _ _ _ _ _).mono ?_
  rintro e w1 ⟨rfl, hb⟩
  have HF1 := Lib.hid (HF.out.below hb)
  clear hb HF
  have ha1 := HF1.out.a.cell; have ht1 := HF1.out.t.cell; have hf1 := HF1.out.t.froz
  go_wp2_with fail
  refine (l01Load_any _ _ zs _ _ hn HF1.out.rd).mono ?_
  rintro e w2 ⟨rfl, hb⟩
  have HF2 := Lib.hid (HF1.out.below hb)
  clear hb HF1 ha1 ht1 hf1
  rw [HX.out]
  have ha2 := HF2.out.a.cell; have ht2 := HF2.out.t.cell; have hf2 := HF2.out.t.froz
  have HF3 : Hid (Fr w (w2.setCell ⟨w.heap.size + 1, 8, none⟩ (.int .i64 x)) A c zs #[.int .i64 id, .int .i64 st, .int .i64 op, .int .i64 arg, .int .i64 0, .int .i64 til, .bool per, .bool can, .int .i64 x, .int .i64 r1, .int .i64 r2, .int .i64 r3, .int .i64 r4, .int .i64 code, .int .i64 res]) := HF2.out.set HA.out 8 _
  go_upto_region 5 with fail
  generalize w2.setCell ⟨w.heap.size + 1, 8, none⟩ (.int .i64 x) = w3 at HF3 ⊢
  clear HF2 ha2 ht2 hf2
  have ha3 := HF3.out.a.cell; have ht3 := HF3.out.t.cell; have hf3 := HF3.out.t.froz
  go_region_law (first
    | (go_simp; go_at_call 102; (with_reducible refine (l04Go_any id st op arg 0 til per can x r1 r2 r3 r4 code res 1 w3.drew).mono ?_); rintro e v1 ⟨rfl, hb⟩; have HG1 := Lib.hid ((HF3.out.drew).below hb); clear hb; have ga1 := HG1.out.a.cell; have gt1 := HG1.out.t.cell; have hra := HG1.out.ra.cell; have hfa := HG1.out.ra.froz; have hrt := HG1.out.rt.cell; have hft := HG1.out.rt.froz))
  all_goals
    rw [row15 (HG1.out.rtSet _)]
    obtain ⟨g1, g2, g3⟩ := HG1.out.done (.slice A zs.length c) #[.int .i64 id, .int .i64 st, .int .i64 op, .int .i64 arg, .int .i64 1, .int .i64 til, .bool per, .bool can, .int .i64 x, .int .i64 r1, .int .i64 r2, .int .i64 r3, .int .i64 r4, .int .i64 code, .int .i64 res]
    go_wp2_with fail
    exact bodyPost_ret (results_at Try.results76 _ _ _ _ _ _ rfl rfl g1 g2 rfl) rfl ⟨rfl, g3⟩
end Go.Proofs.Ytabojajhnhcemaa

namespace Go.Proofs.Ytabojajhnhcemaa
open Go.RowKit

set_option maxHeartbeats 16000000 in
set_option maxRecDepth 100000 in
theorem match6f (id : Int) (st : Int) (op : Int) (arg : Int) (til : Int) (per : Bool) (can : Bool) (r0 : Int) (r1 : Int) (r2 : Int) (r3 : Int) (r4 : Int) (code : Int) (res : Int) (A : Option Addr) (c : Nat) (zs : List Int) (x : Int) (w : World) (hn : zs.length ≤ 1048576) (hA : Rd w A zs) (hb0 : -1000000000000 ≤ r1 ∧ r1 ≤ 1000000000000) (hx : loadZ zs (halfI r1 + 1) = x) (h2 : (x != 0) = false) :
    Calls Try.prog 78 #[.agg #[.slice A zs.length c], .agg #[.int .i64 id, .int .i64 st, .int .i64 op, .int .i64 arg, .int .i64 6, .int .i64 til, .bool per, .bool can, .int .i64 r0, .int .i64 r1, .int .i64 r2, .int .i64 r3, .int .i64 r4, .int .i64 code, .int .i64 res]] w fun e w' => e = .returned (.tuple #[.agg #[.slice A zs.length c], .agg #[.int .i64 id, .int .i64 st, .int .i64 op, .int .i64 arg, .int .i64 0, .int .i64 til, .bool per, .bool can, .int .i64 r0, .int .i64 r1, .int .i64 x, .int .i64 r3, .int .i64 r4, .int .i64 code, .int .i64 res], .int .i64 (-1)]) ∧ Below w.heap.size w w' := by
  have hqr := wrap_rest r2
  have hlit : IntKind.i64.wrap 7 = 7 := rfl; have hlit0 : IntKind.i64.wrap 0 = 0 := rfl
  have hw := wrap_half r1 hb0
  have hh := half_bounds r1 hb0
  have hw2 : IntKind.i64.wrap (r1.tdiv 2 + 1) = r1.tdiv 2 + 1 := IntWalk.i64_in _ (by omega)
  clear hh
  clear hb0
  have HF := Lib.hid (Fr.start w A c zs #[.int .i64 id, .int .i64 st, .int .i64 op, .int .i64 arg, .int .i64 6, .int .i64 til, .bool per, .bool can, .int .i64 r0, .int .i64 r1, .int .i64 r2, .int .i64 r3, .int .i64 r4, .int .i64 code, .int .i64 res] hA)
  have HA := Lib.hid hA; clear hA
  have HX := Lib.hid hx; clear hx
  go_enter Try.func78, Try.ntmps78
  go_upto_region 5 with fail
  generalize hw1 : ((((w.alloc (.cells #[.slice A zs.length c] 25)).alloc (.cells #[.int .i64 id, .int .i64 st, .int .i64 op, .int .i64 arg, .int .i64 6, .int .i64 til, .bool per, .bool can, .int .i64 r0, .int .i64 r1, .int .i64 r2, .int .i64 r3, .int .i64 r4, .int .i64 code, .int .i64 res] 29)).alloc (.cells #[.slice none 0 0] 25)).alloc (.cells #[.int .i64 0, .int .i64 0, .int .i64 0, .int .i64 0, .int .i64 0, .int .i64 0, .bool false, .bool false, .int .i64 0, .int .i64 0, .int .i64 0, .int .i64 0, .int .i64 0, .int .i64 0, .int .i64 0] 29)) = w1 at HF ⊢
  have HF1 := Lib.hid HF.out; clear HF hw1
  have ha1 := HF1.out.a.cell; have ht1 := HF1.out.t.cell; have hf1 := HF1.out.t.froz
  go_wp2_with fail
  refine (l01Load_any _ _ zs _ _ hn HF1.out.rd).mono ?_
  rintro e w2 ⟨rfl, hb⟩
  have HF2 := Lib.hid (HF1.out.below hb)
  clear hb HF1 ha1 ht1 hf1
  rw [show loadZ zs (r1.tdiv 2 + 1) = x from HX.out]
  have ha2 := HF2.out.a.cell; have ht2 := HF2.out.t.cell; have hf2 := HF2.out.t.froz
  have HF3 : Hid (Fr w (w2.setCell ⟨w.heap.size + 1, 10, none⟩ (.int .i64 x)) A c zs #[.int .i64 id, .int .i64 st, .int .i64 op, .int .i64 arg, .int .i64 6, .int .i64 til, .bool per, .bool can, .int .i64 r0, .int .i64 r1, .int .i64 x, .int .i64 r3, .int .i64 r4, .int .i64 code, .int .i64 res]) := HF2.out.set HA.out 10 _
  go_upto_region 6 with fail
  generalize w2.setCell ⟨w.heap.size + 1, 10, none⟩ (.int .i64 x) = w3 at HF3 ⊢
  clear HF2 ha2 ht2 hf2
  have ha3 := HF3.out.a.cell; have ht3 := HF3.out.t.cell; have hf3 := HF3.out.t.froz
  have HDa : Hid (w3.drew.cell? ⟨w.heap.size, 0, none⟩ = some (.slice A zs.length c)) := ha3
  have HDt : Hid (∀ j : Nat, w3.drew.cell? ⟨w.heap.size + 1, j, none⟩ = (#[.int .i64 id, .int .i64 st, .int .i64 op, .int .i64 arg, .int .i64 6, .int .i64 til, .bool per, .bool can, .int .i64 r0, .int .i64 r1, .int .i64 x, .int .i64 r3, .int .i64 r4, .int .i64 code, .int .i64 res] : Array Value)[j]?) := ht3
  go_region_held3 (fun w' => w'.cell? ⟨w.heap.size, 0, none⟩ = some (.slice A zs.length c) ∧ ∀ j : Nat, w'.cell? ⟨w.heap.size + 1, j, none⟩ = (#[.int .i64 id, .int .i64 st, .int .i64 op, .int .i64 arg, .int .i64 6, .int .i64 til, .bool per, .bool can, .int .i64 r0, .int .i64 r1, .int .i64 x, .int .i64 r3, .int .i64 r4, .int .i64 code, .int .i64 res] : Array Value)[j]?)
    (first | with_reducible exact ⟨ha3, ht3⟩ | with_reducible exact ⟨HDa.out, HDt.out⟩ | with_reducible exact ⟨gx1, gt1⟩ | (refine ⟨?_, ?_⟩; (repeat (with_reducible refine cell_set2 (by omega) ?_)); with_reducible exact gx1; (repeat (with_reducible refine cells_set2 (by omega) ?_)); with_reducible exact gt1))
    (first
      | (go_at_call 49; refine (bitZero _).mono ?_; rintro e w'' ⟨rfl, rfl⟩)
      | (go_at_call 102; (with_reducible refine (l04Go_any id st op arg 6 til per can r0 r1 x r3 r4 code res 0 w3.drew).mono ?_); rintro e v1 ⟨rfl, hb⟩; have HG1 := Lib.hid ((HF3.out.drew).below hb); clear hb; have gt1 := HG1.out.t.cell; have gx1 := HG1.out.a.cell; have hra := HG1.out.ra.cell; have hfa := HG1.out.ra.froz; have hrt := HG1.out.rt.cell; have hft := HG1.out.rt.froz))
  rw [row15 (HG1.out.rtSet _)]
  obtain ⟨g1, g2, g3⟩ := HG1.out.done (.slice A zs.length c) #[.int .i64 id, .int .i64 st, .int .i64 op, .int .i64 arg, .int .i64 0, .int .i64 til, .bool per, .bool can, .int .i64 r0, .int .i64 r1, .int .i64 x, .int .i64 r3, .int .i64 r4, .int .i64 code, .int .i64 res]
  go_wp2_with fail
  exact bodyPost_ret (results_ati Try.results78 _ _ _ _ _ _ _ rfl rfl rfl g1 g2 rfl) rfl ⟨rfl, g3⟩
end Go.Proofs.Ytabojajhnhcemaa
