/-
  Two slices of calls, and of threads, that read as the same list, compared.
-/
import Derived.Test.YtiogebflfnicgaaRowT
namespace Go.Proofs.Ytiogebflfnicgaa
open Go.RowKit

set_option maxHeartbeats 1000000 in
theorem eqCall_same (th op arg fr to code res : Int) (w : World) : Calls Try.prog 123 #[.agg #[.int .i64 th, .int .i64 op, .int .i64 arg, .int .i64 fr, .int .i64 to, .int .i64 code, .int .i64 res], .agg #[.int .i64 th, .int .i64 op, .int .i64 arg, .int .i64 fr, .int .i64 to, .int .i64 code, .int .i64 res]] w fun e w' => e = .returned (.bool true) ∧ Below w.heap.size w w' := by
  go_enter Try.func123, Try.ntmps123
  go_wp2
  go_ret
  exact ⟨rfl, below_alloc2 _ _ _⟩

theorem cellsCall {w : World} {b p : Nat} (th : Int) (op : Int) (arg : Int) (fr : Int) (to : Int) (code : Int) (res : Int) (h : w.rangeAt b p [.int .i64 th, .int .i64 op, .int .i64 arg, .int .i64 fr, .int .i64 to, .int .i64 code, .int .i64 res]) : w.cell? ⟨b, p, none⟩ = some (.int .i64 th) ∧ w.cell? ⟨b, p + 1, none⟩ = some (.int .i64 op) ∧ w.cell? ⟨b, p + 2, none⟩ = some (.int .i64 arg) ∧ w.cell? ⟨b, p + 3, none⟩ = some (.int .i64 fr) ∧ w.cell? ⟨b, p + 4, none⟩ = some (.int .i64 to) ∧ w.cell? ⟨b, p + 5, none⟩ = some (.int .i64 code) ∧ w.cell? ⟨b, p + 6, none⟩ = some (.int .i64 res) :=
  ⟨h 0 _ rfl, h 1 _ rfl, h 2 _ rfl, h 3 _ rfl, h 4 _ rfl, h 5 _ rfl, h 6 _ rfl⟩
theorem keepCall {w w' : World} {b p b2 p2 : Nat} (th : Int) (op : Int) (arg : Int) (fr : Int) (to : Int) (code : Int) (res : Int) (hb : Below w.heap.size w w') (h : (w.cell? ⟨b, p, none⟩ = some (.int .i64 th) ∧ w.cell? ⟨b, p + 1, none⟩ = some (.int .i64 op) ∧ w.cell? ⟨b, p + 2, none⟩ = some (.int .i64 arg) ∧ w.cell? ⟨b, p + 3, none⟩ = some (.int .i64 fr) ∧ w.cell? ⟨b, p + 4, none⟩ = some (.int .i64 to) ∧ w.cell? ⟨b, p + 5, none⟩ = some (.int .i64 code) ∧ w.cell? ⟨b, p + 6, none⟩ = some (.int .i64 res)) ∧ (w.cell? ⟨b2, p2, none⟩ = some (.int .i64 th) ∧ w.cell? ⟨b2, p2 + 1, none⟩ = some (.int .i64 op) ∧ w.cell? ⟨b2, p2 + 2, none⟩ = some (.int .i64 arg) ∧ w.cell? ⟨b2, p2 + 3, none⟩ = some (.int .i64 fr) ∧ w.cell? ⟨b2, p2 + 4, none⟩ = some (.int .i64 to) ∧ w.cell? ⟨b2, p2 + 5, none⟩ = some (.int .i64 code) ∧ w.cell? ⟨b2, p2 + 6, none⟩ = some (.int .i64 res))) : (w'.cell? ⟨b, p, none⟩ = some (.int .i64 th) ∧ w'.cell? ⟨b, p + 1, none⟩ = some (.int .i64 op) ∧ w'.cell? ⟨b, p + 2, none⟩ = some (.int .i64 arg) ∧ w'.cell? ⟨b, p + 3, none⟩ = some (.int .i64 fr) ∧ w'.cell? ⟨b, p + 4, none⟩ = some (.int .i64 to) ∧ w'.cell? ⟨b, p + 5, none⟩ = some (.int .i64 code) ∧ w'.cell? ⟨b, p + 6, none⟩ = some (.int .i64 res)) ∧ (w'.cell? ⟨b2, p2, none⟩ = some (.int .i64 th) ∧ w'.cell? ⟨b2, p2 + 1, none⟩ = some (.int .i64 op) ∧ w'.cell? ⟨b2, p2 + 2, none⟩ = some (.int .i64 arg) ∧ w'.cell? ⟨b2, p2 + 3, none⟩ = some (.int .i64 fr) ∧ w'.cell? ⟨b2, p2 + 4, none⟩ = some (.int .i64 to) ∧ w'.cell? ⟨b2, p2 + 5, none⟩ = some (.int .i64 code) ∧ w'.cell? ⟨b2, p2 + 6, none⟩ = some (.int .i64 res)) := by
  obtain ⟨⟨h0, h1, h2, h3, h4, h5, h6⟩, ⟨g0, g1, g2, g3, g4, g5, g6⟩⟩ := h
  exact ⟨⟨cell_keep hb h0, cell_keep hb h1, cell_keep hb h2, cell_keep hb h3, cell_keep hb h4, cell_keep hb h5, cell_keep hb h6⟩, ⟨cell_keep hb g0, cell_keep hb g1, cell_keep hb g2, cell_keep hb g3, cell_keep hb g4, cell_keep hb g5, cell_keep hb g6⟩⟩

set_option maxHeartbeats 4000000 in
set_option maxRecDepth 100000 in
theorem eqCallS_same (A B : Option Addr) (c d : Nat) (l : List Cll) (w : World) (hn : l.length ≤ 1048576) (hA : RdR Cll.cs w A l) (hB : RdR Cll.cs w B l) :
    Calls Try.prog 85 #[.slice A l.length c, .slice B l.length d] w fun e w' => e = .returned (.bool true) ∧ Below w.heap.size w w' := by
  have HA := Lib.hid hA; have HBB := Lib.hid hB; clear hA hB
  go_enter Try.func85, Try.ntmps85
  go_wp2
  go_loopw [5] (fun i wr => ∃ k : Nat, k ≤ l.length ∧ i = .int .i64 k ∧ Below w.heap.size w wr) (fun i _ => l.length - (intOf i).toNat)
  case atStart => exact ⟨0, Nat.zero_le _, rfl, Below.refl _ _⟩
  case round =>
    obtain ⟨k, hk, rfl, hbl⟩ := hrel
    have HB' := Lib.hid hbl
    clear hbl
    by_cases hlt : k < l.length
    · have hlt' : (k : Int) < l.length := by omega
      obtain ⟨x, hx⟩ : ∃ x, l[k]? = some x := ⟨_, List.getElem?_eq_getElem hlt⟩
      obtain ⟨b, o, rfl, hr1⟩ := (HA.out.below HB'.out).row Cll.len k x hx
      obtain ⟨b2, o2, rfl, hr2⟩ := (HBB.out.below HB'.out).row Cll.len k x hx
      clear hx
      obtain ⟨th, op, arg, fr, to, code, res⟩ := x
      have HC := Lib.hid (And.intro (cellsCall _ _ _ _ _ _ _ hr1) (cellsCall _ _ _ _ _ _ _ hr2))
      clear hr1 hr2
      go_wp2_with fail
      go_region_held3 (fun w' => (w'.cell? ⟨b, o + k * 7, none⟩ = some (.int .i64 th) ∧ w'.cell? ⟨b, o + k * 7 + 1, none⟩ = some (.int .i64 op) ∧ w'.cell? ⟨b, o + k * 7 + 2, none⟩ = some (.int .i64 arg) ∧ w'.cell? ⟨b, o + k * 7 + 3, none⟩ = some (.int .i64 fr) ∧ w'.cell? ⟨b, o + k * 7 + 4, none⟩ = some (.int .i64 to) ∧ w'.cell? ⟨b, o + k * 7 + 5, none⟩ = some (.int .i64 code) ∧ w'.cell? ⟨b, o + k * 7 + 6, none⟩ = some (.int .i64 res)) ∧ (w'.cell? ⟨b2, o2 + k * 7, none⟩ = some (.int .i64 th) ∧ w'.cell? ⟨b2, o2 + k * 7 + 1, none⟩ = some (.int .i64 op) ∧ w'.cell? ⟨b2, o2 + k * 7 + 2, none⟩ = some (.int .i64 arg) ∧ w'.cell? ⟨b2, o2 + k * 7 + 3, none⟩ = some (.int .i64 fr) ∧ w'.cell? ⟨b2, o2 + k * 7 + 4, none⟩ = some (.int .i64 to) ∧ w'.cell? ⟨b2, o2 + k * 7 + 5, none⟩ = some (.int .i64 code) ∧ w'.cell? ⟨b2, o2 + k * 7 + 6, none⟩ = some (.int .i64 res))) (first | exact HC.out | exact keepCall _ _ _ _ _ _ _ (below_drew_trans hb7) HC.out)
        (first | (go_at_call 123; (with_reducible refine (eqCall_same _ _ _ _ _ _ _ _).mono ?_); rintro e w7 ⟨rfl, hb7⟩))
      have HB7 := Lib.hid (below_trans HB'.out (below_drew_trans hb7))
      clear hb7
      go_wp2
      go_roundw
      case rel => exact ⟨k + 1, by omega, by go_num, HB7.out⟩
      case measure => simp [intOf]; omega
    · have hge : ¬ (k : Int) < l.length := by omega
      go_wp2
      go_ret
      exact ⟨rfl, HB'.out⟩

theorem cellsThread {w : World} {b p : Nat} (id : Int) (st : Int) (op : Int) (arg : Int) (pc : Int) (til : Int) (per : Bool) (can : Bool) (r0 : Int) (r1 : Int) (r2 : Int) (r3 : Int) (r4 : Int) (code : Int) (res : Int) (h : w.rangeAt b p [.int .i64 id, .int .i64 st, .int .i64 op, .int .i64 arg, .int .i64 pc, .int .i64 til, .bool per, .bool can, .int .i64 r0, .int .i64 r1, .int .i64 r2, .int .i64 r3, .int .i64 r4, .int .i64 code, .int .i64 res]) : w.cell? ⟨b, p, none⟩ = some (.int .i64 id) ∧ w.cell? ⟨b, p + 1, none⟩ = some (.int .i64 st) ∧ w.cell? ⟨b, p + 2, none⟩ = some (.int .i64 op) ∧ w.cell? ⟨b, p + 3, none⟩ = some (.int .i64 arg) ∧ w.cell? ⟨b, p + 4, none⟩ = some (.int .i64 pc) ∧ w.cell? ⟨b, p + 5, none⟩ = some (.int .i64 til) ∧ w.cell? ⟨b, p + 6, none⟩ = some (.bool per) ∧ w.cell? ⟨b, p + 7, none⟩ = some (.bool can) ∧ w.cell? ⟨b, p + 8, none⟩ = some (.int .i64 r0) ∧ w.cell? ⟨b, p + 9, none⟩ = some (.int .i64 r1) ∧ w.cell? ⟨b, p + 10, none⟩ = some (.int .i64 r2) ∧ w.cell? ⟨b, p + 11, none⟩ = some (.int .i64 r3) ∧ w.cell? ⟨b, p + 12, none⟩ = some (.int .i64 r4) ∧ w.cell? ⟨b, p + 13, none⟩ = some (.int .i64 code) ∧ w.cell? ⟨b, p + 14, none⟩ = some (.int .i64 res) :=
  ⟨h 0 _ rfl, h 1 _ rfl, h 2 _ rfl, h 3 _ rfl, h 4 _ rfl, h 5 _ rfl, h 6 _ rfl, h 7 _ rfl, h 8 _ rfl, h 9 _ rfl, h 10 _ rfl, h 11 _ rfl, h 12 _ rfl, h 13 _ rfl, h 14 _ rfl⟩
theorem keepThread {w w' : World} {b p b2 p2 : Nat} (id : Int) (st : Int) (op : Int) (arg : Int) (pc : Int) (til : Int) (per : Bool) (can : Bool) (r0 : Int) (r1 : Int) (r2 : Int) (r3 : Int) (r4 : Int) (code : Int) (res : Int) (hb : Below w.heap.size w w') (h : (w.cell? ⟨b, p, none⟩ = some (.int .i64 id) ∧ w.cell? ⟨b, p + 1, none⟩ = some (.int .i64 st) ∧ w.cell? ⟨b, p + 2, none⟩ = some (.int .i64 op) ∧ w.cell? ⟨b, p + 3, none⟩ = some (.int .i64 arg) ∧ w.cell? ⟨b, p + 4, none⟩ = some (.int .i64 pc) ∧ w.cell? ⟨b, p + 5, none⟩ = some (.int .i64 til) ∧ w.cell? ⟨b, p + 6, none⟩ = some (.bool per) ∧ w.cell? ⟨b, p + 7, none⟩ = some (.bool can) ∧ w.cell? ⟨b, p + 8, none⟩ = some (.int .i64 r0) ∧ w.cell? ⟨b, p + 9, none⟩ = some (.int .i64 r1) ∧ w.cell? ⟨b, p + 10, none⟩ = some (.int .i64 r2) ∧ w.cell? ⟨b, p + 11, none⟩ = some (.int .i64 r3) ∧ w.cell? ⟨b, p + 12, none⟩ = some (.int .i64 r4) ∧ w.cell? ⟨b, p + 13, none⟩ = some (.int .i64 code) ∧ w.cell? ⟨b, p + 14, none⟩ = some (.int .i64 res)) ∧ (w.cell? ⟨b2, p2, none⟩ = some (.int .i64 id) ∧ w.cell? ⟨b2, p2 + 1, none⟩ = some (.int .i64 st) ∧ w.cell? ⟨b2, p2 + 2, none⟩ = some (.int .i64 op) ∧ w.cell? ⟨b2, p2 + 3, none⟩ = some (.int .i64 arg) ∧ w.cell? ⟨b2, p2 + 4, none⟩ = some (.int .i64 pc) ∧ w.cell? ⟨b2, p2 + 5, none⟩ = some (.int .i64 til) ∧ w.cell? ⟨b2, p2 + 6, none⟩ = some (.bool per) ∧ w.cell? ⟨b2, p2 + 7, none⟩ = some (.bool can) ∧ w.cell? ⟨b2, p2 + 8, none⟩ = some (.int .i64 r0) ∧ w.cell? ⟨b2, p2 + 9, none⟩ = some (.int .i64 r1) ∧ w.cell? ⟨b2, p2 + 10, none⟩ = some (.int .i64 r2) ∧ w.cell? ⟨b2, p2 + 11, none⟩ = some (.int .i64 r3) ∧ w.cell? ⟨b2, p2 + 12, none⟩ = some (.int .i64 r4) ∧ w.cell? ⟨b2, p2 + 13, none⟩ = some (.int .i64 code) ∧ w.cell? ⟨b2, p2 + 14, none⟩ = some (.int .i64 res))) : (w'.cell? ⟨b, p, none⟩ = some (.int .i64 id) ∧ w'.cell? ⟨b, p + 1, none⟩ = some (.int .i64 st) ∧ w'.cell? ⟨b, p + 2, none⟩ = some (.int .i64 op) ∧ w'.cell? ⟨b, p + 3, none⟩ = some (.int .i64 arg) ∧ w'.cell? ⟨b, p + 4, none⟩ = some (.int .i64 pc) ∧ w'.cell? ⟨b, p + 5, none⟩ = some (.int .i64 til) ∧ w'.cell? ⟨b, p + 6, none⟩ = some (.bool per) ∧ w'.cell? ⟨b, p + 7, none⟩ = some (.bool can) ∧ w'.cell? ⟨b, p + 8, none⟩ = some (.int .i64 r0) ∧ w'.cell? ⟨b, p + 9, none⟩ = some (.int .i64 r1) ∧ w'.cell? ⟨b, p + 10, none⟩ = some (.int .i64 r2) ∧ w'.cell? ⟨b, p + 11, none⟩ = some (.int .i64 r3) ∧ w'.cell? ⟨b, p + 12, none⟩ = some (.int .i64 r4) ∧ w'.cell? ⟨b, p + 13, none⟩ = some (.int .i64 code) ∧ w'.cell? ⟨b, p + 14, none⟩ = some (.int .i64 res)) ∧ (w'.cell? ⟨b2, p2, none⟩ = some (.int .i64 id) ∧ w'.cell? ⟨b2, p2 + 1, none⟩ = some (.int .i64 st) ∧ w'.cell? ⟨b2, p2 + 2, none⟩ = some (.int .i64 op) ∧ w'.cell? ⟨b2, p2 + 3, none⟩ = some (.int .i64 arg) ∧ w'.cell? ⟨b2, p2 + 4, none⟩ = some (.int .i64 pc) ∧ w'.cell? ⟨b2, p2 + 5, none⟩ = some (.int .i64 til) ∧ w'.cell? ⟨b2, p2 + 6, none⟩ = some (.bool per) ∧ w'.cell? ⟨b2, p2 + 7, none⟩ = some (.bool can) ∧ w'.cell? ⟨b2, p2 + 8, none⟩ = some (.int .i64 r0) ∧ w'.cell? ⟨b2, p2 + 9, none⟩ = some (.int .i64 r1) ∧ w'.cell? ⟨b2, p2 + 10, none⟩ = some (.int .i64 r2) ∧ w'.cell? ⟨b2, p2 + 11, none⟩ = some (.int .i64 r3) ∧ w'.cell? ⟨b2, p2 + 12, none⟩ = some (.int .i64 r4) ∧ w'.cell? ⟨b2, p2 + 13, none⟩ = some (.int .i64 code) ∧ w'.cell? ⟨b2, p2 + 14, none⟩ = some (.int .i64 res)) := by
  obtain ⟨⟨h0, h1, h2, h3, h4, h5, h6, h7, h8, h9, h10, h11, h12, h13, h14⟩, ⟨g0, g1, g2, g3, g4, g5, g6, g7, g8, g9, g10, g11, g12, g13, g14⟩⟩ := h
  exact ⟨⟨cell_keep hb h0, cell_keep hb h1, cell_keep hb h2, cell_keep hb h3, cell_keep hb h4, cell_keep hb h5, cell_keep hb h6, cell_keep hb h7, cell_keep hb h8, cell_keep hb h9, cell_keep hb h10, cell_keep hb h11, cell_keep hb h12, cell_keep hb h13, cell_keep hb h14⟩, ⟨cell_keep hb g0, cell_keep hb g1, cell_keep hb g2, cell_keep hb g3, cell_keep hb g4, cell_keep hb g5, cell_keep hb g6, cell_keep hb g7, cell_keep hb g8, cell_keep hb g9, cell_keep hb g10, cell_keep hb g11, cell_keep hb g12, cell_keep hb g13, cell_keep hb g14⟩⟩

set_option maxHeartbeats 4000000 in
set_option maxRecDepth 100000 in
theorem eqThreadS_same (A B : Option Addr) (c d : Nat) (l : List Thd) (w : World) (hn : l.length ≤ 1048576) (hA : RdR Thd.cs w A l) (hB : RdR Thd.cs w B l) :
    Calls Try.prog 84 #[.slice A l.length c, .slice B l.length d] w fun e w' => e = .returned (.bool true) ∧ Below w.heap.size w w' := by
  have HA := Lib.hid hA; have HBB := Lib.hid hB; clear hA hB
  go_enter Try.func84, Try.ntmps84
  go_wp2
  go_loopw [5] (fun i wr => ∃ k : Nat, k ≤ l.length ∧ i = .int .i64 k ∧ Below w.heap.size w wr) (fun i _ => l.length - (intOf i).toNat)
  case atStart => exact ⟨0, Nat.zero_le _, rfl, Below.refl _ _⟩
  case round =>
    obtain ⟨k, hk, rfl, hbl⟩ := hrel
    have HB' := Lib.hid hbl
    clear hbl
    by_cases hlt : k < l.length
    · have hlt' : (k : Int) < l.length := by omega
      obtain ⟨x, hx⟩ : ∃ x, l[k]? = some x := ⟨_, List.getElem?_eq_getElem hlt⟩
      obtain ⟨b, o, rfl, hr1⟩ := (HA.out.below HB'.out).row Thd.len k x hx
      obtain ⟨b2, o2, rfl, hr2⟩ := (HBB.out.below HB'.out).row Thd.len k x hx
      clear hx
      obtain ⟨id, st, op, arg, pc, til, per, can, r0, r1, r2, r3, r4, code, res⟩ := x
      have HC := Lib.hid (And.intro (cellsThread _ _ _ _ _ _ _ _ _ _ _ _ _ _ _ hr1) (cellsThread _ _ _ _ _ _ _ _ _ _ _ _ _ _ _ hr2))
      clear hr1 hr2
      go_wp2_with fail
      go_region_held3 (fun w' => (w'.cell? ⟨b, o + k * 15, none⟩ = some (.int .i64 id) ∧ w'.cell? ⟨b, o + k * 15 + 1, none⟩ = some (.int .i64 st) ∧ w'.cell? ⟨b, o + k * 15 + 2, none⟩ = some (.int .i64 op) ∧ w'.cell? ⟨b, o + k * 15 + 3, none⟩ = some (.int .i64 arg) ∧ w'.cell? ⟨b, o + k * 15 + 4, none⟩ = some (.int .i64 pc) ∧ w'.cell? ⟨b, o + k * 15 + 5, none⟩ = some (.int .i64 til) ∧ w'.cell? ⟨b, o + k * 15 + 6, none⟩ = some (.bool per) ∧ w'.cell? ⟨b, o + k * 15 + 7, none⟩ = some (.bool can) ∧ w'.cell? ⟨b, o + k * 15 + 8, none⟩ = some (.int .i64 r0) ∧ w'.cell? ⟨b, o + k * 15 + 9, none⟩ = some (.int .i64 r1) ∧ w'.cell? ⟨b, o + k * 15 + 10, none⟩ = some (.int .i64 r2) ∧ w'.cell? ⟨b, o + k * 15 + 11, none⟩ = some (.int .i64 r3) ∧ w'.cell? ⟨b, o + k * 15 + 12, none⟩ = some (.int .i64 r4) ∧ w'.cell? ⟨b, o + k * 15 + 13, none⟩ = some (.int .i64 code) ∧ w'.cell? ⟨b, o + k * 15 + 14, none⟩ = some (.int .i64 res)) ∧ (w'.cell? ⟨b2, o2 + k * 15, none⟩ = some (.int .i64 id) ∧ w'.cell? ⟨b2, o2 + k * 15 + 1, none⟩ = some (.int .i64 st) ∧ w'.cell? ⟨b2, o2 + k * 15 + 2, none⟩ = some (.int .i64 op) ∧ w'.cell? ⟨b2, o2 + k * 15 + 3, none⟩ = some (.int .i64 arg) ∧ w'.cell? ⟨b2, o2 + k * 15 + 4, none⟩ = some (.int .i64 pc) ∧ w'.cell? ⟨b2, o2 + k * 15 + 5, none⟩ = some (.int .i64 til) ∧ w'.cell? ⟨b2, o2 + k * 15 + 6, none⟩ = some (.bool per) ∧ w'.cell? ⟨b2, o2 + k * 15 + 7, none⟩ = some (.bool can) ∧ w'.cell? ⟨b2, o2 + k * 15 + 8, none⟩ = some (.int .i64 r0) ∧ w'.cell? ⟨b2, o2 + k * 15 + 9, none⟩ = some (.int .i64 r1) ∧ w'.cell? ⟨b2, o2 + k * 15 + 10, none⟩ = some (.int .i64 r2) ∧ w'.cell? ⟨b2, o2 + k * 15 + 11, none⟩ = some (.int .i64 r3) ∧ w'.cell? ⟨b2, o2 + k * 15 + 12, none⟩ = some (.int .i64 r4) ∧ w'.cell? ⟨b2, o2 + k * 15 + 13, none⟩ = some (.int .i64 code) ∧ w'.cell? ⟨b2, o2 + k * 15 + 14, none⟩ = some (.int .i64 res))) (first | exact HC.out | exact keepThread _ _ _ _ _ _ _ _ _ _ _ _ _ _ _ (below_drew_trans hb7) HC.out)
        (first | (go_at_call 122; (with_reducible refine (eqThread_same _ _ _ _ _ _ _ _ _ _ _ _ _ _ _ _).mono ?_); rintro e w7 ⟨rfl, hb7⟩))
      have HB7 := Lib.hid (below_trans HB'.out (below_drew_trans hb7))
      clear hb7
      go_wp2
      go_roundw
      case rel => exact ⟨k + 1, by omega, by go_num, HB7.out⟩
      case measure => simp [intOf]; omega
    · have hge : ¬ (k : Int) < l.length := by omega
      go_wp2
      go_ret
      exact ⟨rfl, HB'.out⟩
end Go.Proofs.Ytiogebflfnicgaa
