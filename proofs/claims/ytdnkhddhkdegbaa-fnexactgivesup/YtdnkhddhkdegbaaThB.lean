/-
  Threads (chapter 3): contracts of ThreadOK, the program's, and of what it calls.
-/
import Derived.Test.YtdnkhddhkdegbaaTh
namespace Go.Proofs.Ytdnkhddhkdegbaa
open Go.RowKit

theorem cell_keep {w w' : World} (hb : Below w.heap.size w w') {a : Addr} {v : Value} (h : w.cell? a = some v) : w'.cell? a = some v :=
  (hb.cell (p := a) (block_lt_of_cell h)).trans h

theorem below_alloc2 (w : World) (a b : Obj) : Below w.heap.size w ((w.alloc a).alloc b) := below_trans (below_alloc _ _) (below_alloc _ _)
theorem below_alloc3 (w : World) (a b c : Obj) : Below w.heap.size w (((w.alloc a).alloc b).alloc c) := below_trans (below_alloc2 _ _ _) (below_alloc _ _)

def wordsB (zs : List Int) : Bool := zs.all wordB
theorem wordsB_iff (zs : List Int) : wordsB zs = true ↔ ∀ j, j < zs.length → wordB (zs.getD j 0) = true := by
  unfold wordsB
  rw [List.all_eq_true]
  constructor
  · intro h j hj
    simp only [List.getD, List.getElem?_eq_getElem hj, Option.getD_some]
    exact h _ (List.getElem_mem _)
  · intro h x hx
    obtain ⟨j, hj, rfl⟩ := List.getElem_of_mem hx
    have := h j hj
    simpa only [List.getD, List.getElem?_eq_getElem hj, Option.getD_some] using this
theorem wordsB_false {zs : List Int} {k : Nat} (h : k < zs.length) (hk : wordB (zs.getD k 0) = false) : wordsB zs = false := by
  cases hw : wordsB zs
  · rfl
  · rw [(wordsB_iff zs).1 hw k h] at hk; cases hk
theorem wordsB_regs (r0 r1 r2 r3 r4 : Int) : wordsB [r0, r1, r2, r3, r4] = regsB r0 r1 r2 r3 r4 := by
  simp [wordsB, regsB, Bool.and_assoc]

set_option maxHeartbeats 400000 in
theorem wordOK_any (n : Int) (w : World) : Calls Try.prog 71 #[.int .i64 n] w fun e w' => e = .returned (.bool (wordB n)) ∧ w = w' := by
  unfold wordB inB
  by_cases h1 : -1000000000 ≤ n <;> by_cases h2 : n ≤ 1000000000
  all_goals
    go_enter Try.func71, Try.ntmps71
    go_wp2
    go_ret
    exact ⟨by simp [h1, h2], rfl⟩

set_option maxHeartbeats 1000000 in
theorem wordsOK_any (A : Option Addr) (c : Nat) (zs : List Int) (w : World) (hn : zs.length ≤ 1048576) (hA : Rd w A zs) :
    Calls Try.prog 69 #[.slice A zs.length c] w fun e w' => e = .returned (.bool (wordsB zs)) ∧ w = w' := by
  have HA := Lib.hid hA; clear hA
  go_enter Try.func69, Try.ntmps69
  go_wp2
  go_loop [7] (fun i => ∃ k : Nat, k ≤ zs.length ∧ i = .int .i64 k ∧ ∀ j, j < k → wordB (zs.getD j 0) = true) (fun i => zs.length - (intOf i).toNat)
  case atStart => exact ⟨0, Nat.zero_le _, rfl, fun j hj => absurd hj (by omega)⟩
  case round =>
    obtain ⟨k, hk, rfl, hall⟩ := hrel
    have HL := Lib.hid hall; clear hall
    by_cases hlt : k < zs.length
    · obtain ⟨b, o, rfl, hcell⟩ := HA.out k hlt
      generalize hx : zs.getD k 0 = x at *
      have HX := Lib.hid hx; clear hx
      cases hw : wordB x
      · have HN := Lib.hid (wordsB_false hlt (by rw [HX.out]; exact hw))
        go_wp2_with (go_at_call 71; refine (wordOK_any _ _).mono ?_; rintro e w' ⟨rfl, rfl⟩)
        go_ret
        exact ⟨ret_bool HN.out.symm, rfl⟩
      · go_wp2_with (go_at_call 71; refine (wordOK_any _ _).mono ?_; rintro e w' ⟨rfl, rfl⟩)
        go_round
        case rel => exact ⟨k + 1, by omega, by go_num, fun j hj => by
          by_cases e : j < k
          · exact HL.out j e
          · obtain rfl : j = k := by omega
            rw [HX.out]; exact hw⟩
        case measure => simp [intOf]; omega
    · have HN := Lib.hid ((wordsB_iff zs).2 fun j hj => HL.out j (by omega))
      go_wp2
      go_ret
      exact ⟨ret_bool HN.out.symm, rfl⟩

/-- The registers of a thread that lies in a block of its own, as a slice. -/
theorem rd_regs (w : World) (id st op arg pc til : Int) (per can : Bool) (r0 r1 r2 r3 r4 code res : Int) : Rd (w.alloc (.cells #[.int .i64 id, .int .i64 st, .int .i64 op, .int .i64 arg, .int .i64 pc, .int .i64 til, .bool per, .bool can, .int .i64 r0, .int .i64 r1, .int .i64 r2, .int .i64 r3, .int .i64 r4, .int .i64 code, .int .i64 res] 25)) (some ⟨w.heap.size, 8, none⟩) [r0, r1, r2, r3, r4] := by
  intro i hi
  refine ⟨_, 8, rfl, ?_⟩
  have hi' : i < 5 := hi
  obtain rfl | rfl | rfl | rfl | rfl : i = 0 ∨ i = 1 ∨ i = 2 ∨ i = 3 ∨ i = 4 := by omega
  all_goals simp

set_option maxHeartbeats 1000000 in
theorem regsOK_any (g c : Nat) (r0 r1 r2 r3 r4 : Int) (w : World) (h : Rd w (some ⟨g, 8, none⟩) [r0, r1, r2, r3, r4]) :
    Calls Try.prog 69 #[.slice (some ⟨g, 8, none⟩) 5 c] w fun e w' => e = .returned (.bool (regsB r0 r1 r2 r3 r4)) ∧ w = w' := by
  rw [← wordsB_regs]
  exact wordsOK_any (some ⟨g, 8, none⟩) c [r0, r1, r2, r3, r4] w (by simp) h

theorem hasCall_any (id st op arg pc til : Int) (per can : Bool) (r0 r1 r2 r3 r4 code res : Int) (w : World) : Calls Try.prog 39 #[.agg #[.int .i64 id, .int .i64 st, .int .i64 op, .int .i64 arg, .int .i64 pc, .int .i64 til, .bool per, .bool can, .int .i64 r0, .int .i64 r1, .int .i64 r2, .int .i64 r3, .int .i64 r4, .int .i64 code, .int .i64 res]] w fun e w' => e = .returned (.bool (st != 0)) ∧ Below w.heap.size w w' := by
  go_enter Try.func39, Try.ntmps39
  go_wp2
  go_ret
  exact ⟨rfl, below_alloc _ _⟩

theorem mayWait_any (id st op arg pc til : Int) (per can : Bool) (r0 r1 r2 r3 r4 code res : Int) (w : World) : Calls Try.prog 51 #[.agg #[.int .i64 id, .int .i64 st, .int .i64 op, .int .i64 arg, .int .i64 pc, .int .i64 til, .bool per, .bool can, .int .i64 r0, .int .i64 r1, .int .i64 r2, .int .i64 r3, .int .i64 r4, .int .i64 code, .int .i64 res]] w fun e w' => e = .returned (.bool (waitB op)) ∧ Below w.heap.size w w' := by
  go_enter Try.func51, Try.ntmps51
  go_wp2_with (go_at_call 26; refine (implIsWaiting_any _ _).mono ?_; rintro e w' ⟨rfl, rfl⟩)
  go_ret
  exact ⟨rfl, below_alloc _ _⟩

set_option maxHeartbeats 2000000 in
theorem callOK_any (id st op arg pc til : Int) (per can : Bool) (r0 r1 r2 r3 r4 code res : Int) (w : World) : Calls Try.prog 59 #[.agg #[.int .i64 id, .int .i64 st, .int .i64 op, .int .i64 arg, .int .i64 pc, .int .i64 til, .bool per, .bool can, .int .i64 r0, .int .i64 r1, .int .i64 r2, .int .i64 r3, .int .i64 r4, .int .i64 code, .int .i64 res]] w fun e w' => e = .returned (.bool (callB op arg pc til r0 r1 r2 r3 r4 code res)) ∧ Below w.heap.size w w' := by
  have HR := Lib.hid (rd_regs w id st op arg pc til per can r0 r1 r2 r3 r4 code res)
  unfold callB
  cases h1 : opB op
  · go_enter Try.func59, Try.ntmps59
    go_wp2_with (go_at_call 36; refine (opOK_any _ _).mono ?_; rintro e w' ⟨rfl, rfl⟩)
    go_ret
    exact ⟨ret_bool rfl, below_alloc _ _⟩
  cases h2 : argB op arg
  · go_enter Try.func59, Try.ntmps59
    go_wp2_with (first | (go_at_call 36; refine (opOK_any _ _).mono ?_; rintro e w' ⟨rfl, rfl⟩) | (go_at_call 37; refine (argOK_any _ _ _).mono ?_; rintro e w' ⟨rfl, rfl⟩))
    go_ret
    exact ⟨ret_bool rfl, below_alloc _ _⟩
  cases h3 : tilB op til
  · go_enter Try.func59, Try.ntmps59
    go_wp2_with (first | (go_at_call 36; refine (opOK_any _ _).mono ?_; rintro e w' ⟨rfl, rfl⟩) | (go_at_call 37; refine (argOK_any _ _ _).mono ?_; rintro e w' ⟨rfl, rfl⟩) | (go_at_call 38; refine (untilOK_any _ _ _).mono ?_; rintro e w' ⟨rfl, rfl⟩))
    go_ret
    exact ⟨ret_bool rfl, below_alloc _ _⟩
  cases h4 : inB pc 0 16
  · have h4' := inB_false h4
    clear h4
    by_cases h5 : 0 ≤ pc
    all_goals
      have h6 : pc < 0 ∨ 16 < pc := by omega
      clear h4'
      first | (have h7 : 16 < pc := by omega) | (have h7 : pc < 0 := by omega)
      clear h6
      go_enter Try.func59, Try.ntmps59
      go_wp2_with (first | (go_at_call 36; refine (opOK_any _ _).mono ?_; rintro e w' ⟨rfl, rfl⟩) | (go_at_call 37; refine (argOK_any _ _ _).mono ?_; rintro e w' ⟨rfl, rfl⟩) | (go_at_call 38; refine (untilOK_any _ _ _).mono ?_; rintro e w' ⟨rfl, rfl⟩))
      go_ret
      exact ⟨ret_bool rfl, below_alloc _ _⟩
  obtain ⟨h5, h6⟩ := inB_true h4
  clear h4
  cases h7 : regsB r0 r1 r2 r3 r4
  all_goals
    cases h8 : (code == 0) <;> cases h9 : (res == 0)
  all_goals
    go_enter Try.func59, Try.ntmps59
    go_wp2_with (first | (go_at_call 36; refine (opOK_any _ _).mono ?_; rintro e w' ⟨rfl, rfl⟩) | (go_at_call 37; refine (argOK_any _ _ _).mono ?_; rintro e w' ⟨rfl, rfl⟩) | (go_at_call 38; refine (untilOK_any _ _ _).mono ?_; rintro e w' ⟨rfl, rfl⟩) | (go_at_call 69; refine (regsOK_any _ _ r0 r1 r2 r3 r4 _ HR.out).mono ?_; rintro e w' ⟨rfl, rfl⟩))
    go_ret
    exact ⟨ret_bool rfl, below_alloc _ _⟩
end Go.Proofs.Ytdnkhddhkdegbaa
