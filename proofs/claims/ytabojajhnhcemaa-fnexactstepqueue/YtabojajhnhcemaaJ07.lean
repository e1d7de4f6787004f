/-
  Threads (chapter 3): BeginCall.
  Threads (chapter 3): BeginCall, the program's and the model's.
  Threads (chapter 3): BeginCall in one contract.
  Threads (chapter 3): CancelThread, the program's and the model's.
  Parking (chapter 4): what its functions answer.
  Parking (chapter 4): the model's GivesUp and ExpireThread.
  Contracts of the arena's functions that read: the program's and the model's (chapter 2).
  Contracts: the model's ArenaOK, the faults of a cell, LoadCell of both (chapter 2).
  Contracts of the program's list of cells: grown, with, joined; list, copyArena (chapter 2).
  append onto a row of the call's own, the source a slice that reads as a list (nil, empty or not).
  Contracts: LoadCell, the program's and the model's (chapter 2).
  Contracts: writeFault, StoreCell of the program; l01Load, l01Store, StoreCell of the model (chapter 2).
  Contracts: l01Load, l01Store, StoreCell of the model (chapter 2).
  Contracts: CasCell of the program; l01Cas, CasCell of the model (chapter 2).
  Contracts: CasCell of the model; AddCell of the program and of the model (chapter 2).
  Contract: AddCell of the model (chapter 2).
  Contracts: lists that are compared (the model's l01Same, the library's slices.Equal, the laws' sameInts), SameArena of both (chapter 2).
  Contracts: joined, allocFault, AllocCells of the program (chapter 2).
  Contract: AllocCells of the program (chapter 2).
  Contracts: l01Alloc and AllocCells of the model (chapter 2).
  Contract: AllocCells of the model (chapter 2).
  The walks of the laws FnExactArenaOK and FnExactLoadCell.
  The walk of the law FnExactSameArena.
-/
import Derived.Test.YtabojajhnhcemaaJ01
import Derived.Test.YtabojajhnhcemaaJ05
import Derived.Test.YtabojajhnhcemaaJ06
import Derived.Maps.AppendAt
import Derived.Deep.RegionWith
import Derived.Deep.RegionLaw
namespace Go.Proofs.Ytabojajhnhcemaa
open Go.RowKit

end Go.Proofs.Ytabojajhnhcemaa

namespace Go.Proofs.Ytabojajhnhcemaa
open Go.RowKit

end Go.Proofs.Ytabojajhnhcemaa

namespace Go.Proofs.Ytabojajhnhcemaa
open Go.RowKit

end Go.Proofs.Ytabojajhnhcemaa

namespace Go.Proofs.Ytabojajhnhcemaa
open Go.RowKit

theorem canB_bad (id st op arg pc til : Int) (per can : Bool) (r0 r1 r2 r3 r4 code res : Int) (h : thB id st op arg pc til per can r0 r1 r2 r3 r4 code res = false) : canB id st op arg pc til per can r0 r1 r2 r3 r4 code res = (thZero, 1) := by unfold canB; rw [h]; rfl
theorem canB_idle (id st op arg pc til : Int) (per can : Bool) (r0 r1 r2 r3 r4 code res : Int) (h : thB id st op arg pc til per can r0 r1 r2 r3 r4 code res = true) (h1 : waitB op = false) : canB id st op arg pc til per can r0 r1 r2 r3 r4 code res = (⟨id, st, op, arg, pc, til, per, can, r0, r1, r2, r3, r4, code, res⟩, 10) := by unfold canB; rw [h, h1]; rfl
theorem canB_ok (id st op arg pc til : Int) (per can : Bool) (r0 r1 r2 r3 r4 code res : Int) (h : thB id st op arg pc til per can r0 r1 r2 r3 r4 code res = true) (h1 : waitB op = true) : canB id st op arg pc til per can r0 r1 r2 r3 r4 code res = (⟨id, 1, op, arg, pc, til, per, true, r0, r1, r2, r3, r4, code, res⟩, 0) := by unfold canB; rw [h, h1]; rfl
/-- An idle thread has no call that may wait. -/
theorem idle_wait (id op arg pc til : Int) (per can : Bool) (r0 r1 r2 r3 r4 code res : Int) (h : thB id 0 op arg pc til per can r0 r1 r2 r3 r4 code res = true) : waitB op = false := by
  cases h0 : inB id 0 3
  · rw [thB_id _ _ _ _ _ _ _ _ _ _ _ _ _ _ _ h0] at h; cases h
  rw [thB_idle _ _ _ _ _ _ _ _ _ _ _ _ _ _ h0] at h
  simp [idleB, bareB] at h
  obtain ⟨⟨⟨⟨⟨⟨⟨⟨rfl, _⟩, _⟩, _⟩, _⟩, _⟩, _⟩, _⟩, _⟩ := h
  decide

end Go.Proofs.Ytabojajhnhcemaa

namespace Go.Proofs.Ytabojajhnhcemaa
open Go.RowKit

theorem results_th1 {fn : Func} {p : Tmp} (h : fn.results = #[.cell p 29]) (tmps : Array Value) (w : World) (g : Nat) (cs : Array Value)
    (hp : tmps.getD p undef = .pointer (some ⟨g, 0, none⟩)) (hg : BoxT w g cs) (hs : cs.size = 15) :
    (results fn tmps).run Try.prog w = .ok (.agg cs) w := by
  have hp' : tmps[p]?.getD undef = .pointer (some ⟨g, 0, none⟩) := by simpa using hp
  have hl := run_loadVar_row w g 29 29 cs (0, 0) _ hg Try.underlying29 rfl (by rw [hs]; exact info_th)
  simp [results, h, hp', asAddr, hl]

def parkB (id st op arg pc til : Int) (per can : Bool) (r0 r1 r2 r3 r4 code res : Int) : Th × Int :=
  if thB id st op arg pc til per can r0 r1 r2 r3 r4 code res = true then (if waitB op = true then (if (st == 2) = true then (⟨id, st, op, arg, pc, til, per, can, r0, r1, r2, r3, r4, code, res⟩, 11) else if per = true then (⟨id, st, op, arg, pc, til, false, can, r0, r1, r2, r3, r4, code, res⟩, 0) else (⟨id, 2, op, arg, pc, til, per, can, r0, r1, r2, r3, r4, code, res⟩, 0)) else (⟨id, st, op, arg, pc, til, per, can, r0, r1, r2, r3, r4, code, res⟩, 10)) else (thZero, 1)
def unpB (id st op arg pc til : Int) (per can : Bool) (r0 r1 r2 r3 r4 code res : Int) : Th × Int :=
  if thB id st op arg pc til per can r0 r1 r2 r3 r4 code res = true then (if (st == 2) = true then (⟨id, frB st, op, arg, pc, til, per, can, r0, r1, r2, r3, r4, code, res⟩, 0) else (⟨id, st, op, arg, pc, til, waitB op, can, r0, r1, r2, r3, r4, code, res⟩, 0)) else (thZero, 1)
def wakB (id st op arg pc til : Int) (per can : Bool) (r0 r1 r2 r3 r4 code res : Int) : Th × Int :=
  if thB id st op arg pc til per can r0 r1 r2 r3 r4 code res = true then (if (st == 2) = true then (⟨id, frB st, op, arg, pc, til, per, can, r0, r1, r2, r3, r4, code, res⟩, 0) else (⟨id, st, op, arg, pc, til, per, can, r0, r1, r2, r3, r4, code, res⟩, 10)) else (thZero, 1)
/-- It gives up: cancelled, or its time is over. -/
def gvB (can : Bool) (til now : Int) : Bool := can || (!(til == 0) && decide (til ≤ now))
def givB (id st op arg pc til : Int) (per can : Bool) (r0 r1 r2 r3 r4 code res : Int) (now : Int) : Bool × Int :=
  if thB id st op arg pc til per can r0 r1 r2 r3 r4 code res = true then (if inB now 0 1000000 = true then (gvB can til now, 0) else (false, 4)) else (false, 1)
def expB (id st op arg pc til : Int) (per can : Bool) (r0 r1 r2 r3 r4 code res : Int) (now : Int) : Th × Int :=
  if thB id st op arg pc til per can r0 r1 r2 r3 r4 code res = true then (if inB now 0 1000000 = true then (if gvB can til now = true then (⟨id, frB st, op, arg, pc, til, per, can, r0, r1, r2, r3, r4, code, res⟩, 0) else (⟨id, st, op, arg, pc, til, per, can, r0, r1, r2, r3, r4, code, res⟩, 0)) else (thZero, 4)) else (thZero, 1)

theorem parkB_bad (id st op arg pc til : Int) (per can : Bool) (r0 r1 r2 r3 r4 code res : Int) (h : thB id st op arg pc til per can r0 r1 r2 r3 r4 code res = false) : parkB id st op arg pc til per can r0 r1 r2 r3 r4 code res = (thZero, 1) := by unfold parkB; rw [h]; rfl
theorem parkB_idle (id st op arg pc til : Int) (per can : Bool) (r0 r1 r2 r3 r4 code res : Int) (h : thB id st op arg pc til per can r0 r1 r2 r3 r4 code res = true) (h1 : waitB op = false) : parkB id st op arg pc til per can r0 r1 r2 r3 r4 code res = (⟨id, st, op, arg, pc, til, per, can, r0, r1, r2, r3, r4, code, res⟩, 10) := by unfold parkB; rw [h, h1]; rfl
theorem parkB_parked (id st op arg pc til : Int) (per can : Bool) (r0 r1 r2 r3 r4 code res : Int) (h : thB id st op arg pc til per can r0 r1 r2 r3 r4 code res = true) (h1 : waitB op = true) (h2 : (st == 2) = true) : parkB id st op arg pc til per can r0 r1 r2 r3 r4 code res = (⟨id, st, op, arg, pc, til, per, can, r0, r1, r2, r3, r4, code, res⟩, 11) := by unfold parkB; rw [h, h1, h2]; rfl
theorem parkB_permit (id st op arg pc til : Int) (per can : Bool) (r0 r1 r2 r3 r4 code res : Int) (h : thB id st op arg pc til per can r0 r1 r2 r3 r4 code res = true) (h1 : waitB op = true) (h2 : (st == 2) = false) (h3 : per = true) : parkB id st op arg pc til per can r0 r1 r2 r3 r4 code res = (⟨id, st, op, arg, pc, til, false, can, r0, r1, r2, r3, r4, code, res⟩, 0) := by unfold parkB; rw [if_pos h, if_pos h1, if_neg (by rw [h2]; decide), if_pos h3]
theorem parkB_parks (id st op arg pc til : Int) (per can : Bool) (r0 r1 r2 r3 r4 code res : Int) (h : thB id st op arg pc til per can r0 r1 r2 r3 r4 code res = true) (h1 : waitB op = true) (h2 : (st == 2) = false) (h3 : per = false) : parkB id st op arg pc til per can r0 r1 r2 r3 r4 code res = (⟨id, 2, op, arg, pc, til, per, can, r0, r1, r2, r3, r4, code, res⟩, 0) := by unfold parkB; rw [if_pos h, if_pos h1, if_neg (by rw [h2]; decide), if_neg (by rw [h3]; decide)]
theorem unpB_bad (id st op arg pc til : Int) (per can : Bool) (r0 r1 r2 r3 r4 code res : Int) (h : thB id st op arg pc til per can r0 r1 r2 r3 r4 code res = false) : unpB id st op arg pc til per can r0 r1 r2 r3 r4 code res = (thZero, 1) := by unfold unpB; rw [h]; rfl
theorem unpB_parked (id st op arg pc til : Int) (per can : Bool) (r0 r1 r2 r3 r4 code res : Int) (h : thB id st op arg pc til per can r0 r1 r2 r3 r4 code res = true) (h1 : (st == 2) = true) : unpB id st op arg pc til per can r0 r1 r2 r3 r4 code res = (⟨id, frB st, op, arg, pc, til, per, can, r0, r1, r2, r3, r4, code, res⟩, 0) := by unfold unpB; rw [h, h1]; rfl
theorem unpB_other (id st op arg pc til : Int) (per can : Bool) (r0 r1 r2 r3 r4 code res : Int) (h : thB id st op arg pc til per can r0 r1 r2 r3 r4 code res = true) (h1 : (st == 2) = false) : unpB id st op arg pc til per can r0 r1 r2 r3 r4 code res = (⟨id, st, op, arg, pc, til, waitB op, can, r0, r1, r2, r3, r4, code, res⟩, 0) := by unfold unpB; rw [h, h1]; rfl
theorem wakB_bad (id st op arg pc til : Int) (per can : Bool) (r0 r1 r2 r3 r4 code res : Int) (h : thB id st op arg pc til per can r0 r1 r2 r3 r4 code res = false) : wakB id st op arg pc til per can r0 r1 r2 r3 r4 code res = (thZero, 1) := by unfold wakB; rw [h]; rfl
theorem wakB_ok (id st op arg pc til : Int) (per can : Bool) (r0 r1 r2 r3 r4 code res : Int) (h : thB id st op arg pc til per can r0 r1 r2 r3 r4 code res = true) (h1 : (st == 2) = true) : wakB id st op arg pc til per can r0 r1 r2 r3 r4 code res = (⟨id, frB st, op, arg, pc, til, per, can, r0, r1, r2, r3, r4, code, res⟩, 0) := by unfold wakB; rw [h, h1]; rfl
theorem wakB_idle (id st op arg pc til : Int) (per can : Bool) (r0 r1 r2 r3 r4 code res : Int) (h : thB id st op arg pc til per can r0 r1 r2 r3 r4 code res = true) (h1 : (st == 2) = false) : wakB id st op arg pc til per can r0 r1 r2 r3 r4 code res = (⟨id, st, op, arg, pc, til, per, can, r0, r1, r2, r3, r4, code, res⟩, 10) := by unfold wakB; rw [h, h1]; rfl
theorem givB_bad (id st op arg pc til : Int) (per can : Bool) (r0 r1 r2 r3 r4 code res : Int) (now : Int) (h : thB id st op arg pc til per can r0 r1 r2 r3 r4 code res = false) : givB id st op arg pc til per can r0 r1 r2 r3 r4 code res now = (false, 1) := by unfold givB; rw [h]; rfl
theorem givB_range (id st op arg pc til : Int) (per can : Bool) (r0 r1 r2 r3 r4 code res : Int) (now : Int) (h : thB id st op arg pc til per can r0 r1 r2 r3 r4 code res = true) (h1 : inB now 0 1000000 = false) : givB id st op arg pc til per can r0 r1 r2 r3 r4 code res now = (false, 4) := by unfold givB; rw [h, h1]; rfl
theorem givB_ok (id st op arg pc til : Int) (per can : Bool) (r0 r1 r2 r3 r4 code res : Int) (now : Int) (h : thB id st op arg pc til per can r0 r1 r2 r3 r4 code res = true) (h1 : inB now 0 1000000 = true) : givB id st op arg pc til per can r0 r1 r2 r3 r4 code res now = (gvB can til now, 0) := by unfold givB; rw [h, h1]; rfl
theorem expB_bad (id st op arg pc til : Int) (per can : Bool) (r0 r1 r2 r3 r4 code res : Int) (now : Int) (h : thB id st op arg pc til per can r0 r1 r2 r3 r4 code res = false) : expB id st op arg pc til per can r0 r1 r2 r3 r4 code res now = (thZero, 1) := by unfold expB; rw [h]; rfl
theorem expB_range (id st op arg pc til : Int) (per can : Bool) (r0 r1 r2 r3 r4 code res : Int) (now : Int) (h : thB id st op arg pc til per can r0 r1 r2 r3 r4 code res = true) (h1 : inB now 0 1000000 = false) : expB id st op arg pc til per can r0 r1 r2 r3 r4 code res now = (thZero, 4) := by unfold expB; rw [h, h1]; rfl
theorem expB_over (id st op arg pc til : Int) (per can : Bool) (r0 r1 r2 r3 r4 code res : Int) (now : Int) (h : thB id st op arg pc til per can r0 r1 r2 r3 r4 code res = true) (h1 : inB now 0 1000000 = true) (h2 : gvB can til now = true) : expB id st op arg pc til per can r0 r1 r2 r3 r4 code res now = (⟨id, frB st, op, arg, pc, til, per, can, r0, r1, r2, r3, r4, code, res⟩, 0) := by unfold expB; rw [h, h1, h2]; rfl
theorem expB_waits (id st op arg pc til : Int) (per can : Bool) (r0 r1 r2 r3 r4 code res : Int) (now : Int) (h : thB id st op arg pc til per can r0 r1 r2 r3 r4 code res = true) (h1 : inB now 0 1000000 = true) (h2 : gvB can til now = false) : expB id st op arg pc til per can r0 r1 r2 r3 r4 code res now = (⟨id, st, op, arg, pc, til, per, can, r0, r1, r2, r3, r4, code, res⟩, 0) := by unfold expB; rw [h, h1, h2]; rfl

theorem thB_til (id st op arg pc til : Int) (per can : Bool) (r0 r1 r2 r3 r4 code res : Int) (h : thB id st op arg pc til per can r0 r1 r2 r3 r4 code res = true) : 0 ≤ til := by
  cases hq : inB til 0 1000000
  · rw [thB_bad id st op arg pc til per can r0 r1 r2 r3 r4 code res (.inr (.inr (.inr (.inl hq))))] at h; cases h
  · exact (inB_true hq).1
/-- An idle thread has no permit. -/
theorem idle_per (id op arg pc til : Int) (per can : Bool) (r0 r1 r2 r3 r4 code res : Int) (h : thB id 0 op arg pc til per can r0 r1 r2 r3 r4 code res = true) : per = false := by
  cases h0 : inB id 0 3
  · rw [thB_id _ _ _ _ _ _ _ _ _ _ _ _ _ _ _ h0] at h; cases h
  rw [thB_idle _ _ _ _ _ _ _ _ _ _ _ _ _ _ h0] at h
  simp [idleB, bareB] at h
  exact h.1.1.1.1.2
theorem gvB_pos {can : Bool} {til now : Int} (h : 0 ≤ til) : (can || (decide (0 < til) && decide (til ≤ now))) = gvB can til now := by
  unfold gvB
  congr 2
  by_cases h0 : til = 0
  · subst h0; rfl
  · have : 0 < til := by omega
    simp [h0, this]
end Go.Proofs.Ytabojajhnhcemaa

namespace Go.Proofs.Ytabojajhnhcemaa
open Go.RowKit

theorem ret_boolint2 {a b : Bool} {c d : Int} (h : a = b) (h1 : c = d) : Ending.returned (.tuple #[.bool a, .int .i64 c]) = .returned (.tuple #[.bool b, .int .i64 d]) := by rw [h, h1]
set_option maxHeartbeats 1000000 in
theorem l03Gives_any (id st op arg pc til : Int) (per can : Bool) (r0 r1 r2 r3 r4 code res : Int) (now : Int) (w : World) (h : 0 ≤ til) : Calls Try.prog 103 #[.agg #[.int .i64 id, .int .i64 st, .int .i64 op, .int .i64 arg, .int .i64 pc, .int .i64 til, .bool per, .bool can, .int .i64 r0, .int .i64 r1, .int .i64 r2, .int .i64 r3, .int .i64 r4, .int .i64 code, .int .i64 res], .int .i64 now] w fun e w' => e = .returned (.bool (gvB can til now)) ∧ Below w.heap.size w w' := by
  have HV := Lib.hid (gvB_pos (can := can) (now := now) h)
  clear h
  cases can
  · by_cases h0 : 0 < til
    · by_cases h2 : til ≤ now
      all_goals
        go_enter Try.func103, Try.ntmps103
        go_wp2
        go_ret
        exact ⟨ret_bool (by rw [← HV.out]; simp [h0, h2]), below_alloc _ _⟩
    · go_enter Try.func103, Try.ntmps103
      go_wp2
      go_ret
      exact ⟨ret_bool (by rw [← HV.out]; simp [show ¬ 0 < til from by omega]), below_alloc _ _⟩
  · go_enter Try.func103, Try.ntmps103
    go_wp2
    go_ret
    exact ⟨ret_bool (by rw [← HV.out]; rfl), below_alloc _ _⟩

end Go.Proofs.Ytabojajhnhcemaa

namespace Go.Proofs.Ytabojajhnhcemaa
open Go.RowKit

def arenaB (zs : List Int) : Bool := decide (1 ≤ zs.length) && decide (zs.length ≤ 400) && (zs.getD 0 0 == 0) && wordsB zs
def cellCode (zs : List Int) (at_ : Int) : Int := if arenaB zs = true then (if 1 ≤ at_ ∧ at_ < zs.length then 0 else 4) else 1

theorem arenaB_false {zs : List Int} (h : zs.length < 1 ∨ 400 < zs.length ∨ (zs.getD 0 0 == 0) = false ∨ wordsB zs = false) : arenaB zs = false := by
  unfold arenaB
  rcases h with h | h | h | h
  · rw [decide_eq_false (by omega : ¬ 1 ≤ zs.length)]; rfl
  · rw [decide_eq_false (by omega : ¬ zs.length ≤ 400), Bool.and_false]; rfl
  · rw [h, Bool.and_false]; rfl
  · rw [h, Bool.and_false]
theorem arenaB_true {zs : List Int} (h1 : 1 ≤ zs.length) (h2 : zs.length ≤ 400) (h3 : (zs.getD 0 0 == 0) = true) (h4 : wordsB zs = true) : arenaB zs = true := by
  unfold arenaB
  rw [decide_eq_true h1, decide_eq_true h2, h3, h4]; rfl
theorem arenaB_parts {zs : List Int} (h : arenaB zs = true) : 1 ≤ zs.length ∧ zs.length ≤ 400 ∧ zs.getD 0 0 = 0 ∧ wordsB zs = true := by
  unfold arenaB at h
  rw [Bool.and_eq_true, Bool.and_eq_true, Bool.and_eq_true] at h
  exact ⟨of_decide_eq_true h.1.1.1, of_decide_eq_true h.1.1.2, by simpa using h.1.2, h.2⟩

set_option maxHeartbeats 1000000 in
theorem implArenaOK_any (A : Option Addr) (c : Nat) (zs : List Int) (w : World) (hn : zs.length ≤ 1048576) (hA : Rd w A zs) :
    Calls Try.prog 14 #[.agg #[.slice A zs.length c]] w fun e w' => e = .returned (.bool (arenaB zs)) ∧ Below w.heap.size w w' := by
  by_cases h1 : zs.length < 1
  · have HN := Lib.hid (arenaB_false (zs := zs) (.inl h1))
    have hd : decide (zs.length < 1) = true := decide_eq_true h1
    clear hA
    go_enter Try.func14, Try.ntmps14
    go_wp2
    go_ret
    exact ⟨ret_bool HN.out.symm, below_alloc _ _⟩
  by_cases h2 : 400 < zs.length
  · have HN := Lib.hid (arenaB_false (zs := zs) (.inr (.inl h2)))
    clear hA
    go_enter Try.func14, Try.ntmps14
    go_wp2
    go_ret
    exact ⟨ret_bool HN.out.symm, below_alloc _ _⟩
  have hp : 0 < zs.length := by omega
  obtain ⟨b, o, rfl, hcell⟩ := hA 0 hp
  have HA := Lib.hid hA; clear hA
  have hcell' : (w.alloc (.cells #[.slice (some ⟨b, o, none⟩) zs.length c] 25)).cell? ⟨b, o, none⟩ = some (.int .i64 (zs.getD 0 0)) := by
    rw [(below_alloc w _).cell (p := ⟨b, o, none⟩) (block_lt_of_cell hcell)]; exact hcell
  generalize hx : zs.getD 0 0 = x at *
  have HX := Lib.hid hx; clear hx
  have hd1 : decide (zs.length < 1) = false := decide_eq_false (by omega)
  have hd2 : decide (400 < zs.length) = false := decide_eq_false (by omega)
  cases h3 : (x == 0)
  · have HN := Lib.hid (arenaB_false (zs := zs) (.inr (.inr (.inl (by rw [HX.out]; exact h3)))))
    go_enter Try.func14, Try.ntmps14
    go_wp2
    go_ret
    exact ⟨ret_bool HN.out.symm, below_alloc _ _⟩
  · have HN : Hid (arenaB zs = wordsB zs) := by
      cases hw : wordsB zs
      · exact arenaB_false (.inr (.inr (.inr hw)))
      · exact arenaB_true (by omega) (by omega) (by rw [HX.out]; exact h3) hw
    go_enter Try.func14, Try.ntmps14
    go_wp2_with (go_at_call 38; refine (wordsOK_any _ _ zs _ hn (HA.out.below (below_alloc _ _))).mono ?_; rintro e w' ⟨rfl, rfl⟩)
    go_ret
    exact ⟨ret_bool HN.out.symm, below_alloc _ _⟩
end Go.Proofs.Ytabojajhnhcemaa

namespace Go.Proofs.Ytabojajhnhcemaa
open Go.RowKit

set_option maxHeartbeats 1000000 in
theorem specArenaOK_any (A : Option Addr) (c : Nat) (zs : List Int) (w : World) (hn : zs.length ≤ 1048576) (hA : Rd w A zs) :
    Calls Try.prog 74 #[.agg #[.slice A zs.length c]] w fun e w' => e = .returned (.bool (arenaB zs)) ∧ Below w.heap.size w w' := by
  have HA := Lib.hid (hA.below (below_alloc w (.cells #[.slice A zs.length c] 25))); clear hA
  go_enter Try.func74, Try.ntmps74
  go_wp2
  go_loop [3] (fun i => ∃ k : Nat, k ≤ zs.length ∧ i = .int .i64 k ∧ ∀ j, j < k → wordB (zs.getD j 0) = true) (fun i => zs.length - (intOf i).toNat)
  case atStart => exact ⟨0, Nat.zero_le _, rfl, fun j hj => absurd hj (by omega)⟩
  case round =>
    obtain ⟨k, hk, rfl, hall⟩ := hrel
    have HL := Lib.hid hall; clear hall
    by_cases hlt : k < zs.length
    · obtain ⟨b, o, rfl, hcell⟩ := HA.out k hlt
      generalize hx : zs.getD k 0 = x at *
      have HX := Lib.hid hx; clear hx
      cases hw : wordB x
      · have HN := Lib.hid (arenaB_false (zs := zs) (.inr (.inr (.inr (wordsB_false hlt (by rw [HX.out]; exact hw))))))
        go_wp2_with (go_at_call 97; refine (l01Word_any _ _).mono ?_; rintro e w' ⟨rfl, rfl⟩)
        go_ret
        exact ⟨ret_bool HN.out.symm, below_alloc _ _⟩
      · go_wp2_with (go_at_call 97; refine (l01Word_any _ _).mono ?_; rintro e w' ⟨rfl, rfl⟩)
        go_round
        case rel => exact ⟨k + 1, by omega, by go_num, fun j hj => by
          by_cases e : j < k
          · exact HL.out j e
          · obtain rfl : j = k := by omega
            rw [HX.out]; exact hw⟩
        case measure => simp [intOf]; omega
    · have HW := Lib.hid ((wordsB_iff zs).2 fun j hj => HL.out j (by omega))
      cases hi : inB (zs.length : Int) 1 400
      · have HN : Hid (arenaB zs = false) := by
          have := inB_false hi
          by_cases h1 : zs.length < 1
          · exact arenaB_false (.inl h1)
          · exact arenaB_false (.inr (.inl (by omega)))
        go_wp2_with (go_at_call 52; refine (l01In_any _ _ _ _).mono ?_; rintro e w' ⟨rfl, rfl⟩)
        go_ret
        exact ⟨ret_bool HN.out.symm, below_alloc _ _⟩
      · have hb := inB_true hi
        have hp : 0 < zs.length := by omega
        obtain ⟨b, o, rfl, hcell⟩ := HA.out 0 hp
        rw [Nat.add_zero] at hcell
        generalize hx : zs.getD 0 0 = x at *
        have HX := Lib.hid hx; clear hx
        cases h3 : (x == 0)
        · have HN := Lib.hid (arenaB_false (zs := zs) (.inr (.inr (.inl (by rw [HX.out]; exact h3)))))
          go_wp2_with (go_at_call 52; refine (l01In_any _ _ _ _).mono ?_; rintro e w' ⟨rfl, rfl⟩)
          go_ret
          exact ⟨ret_bool HN.out.symm, below_alloc _ _⟩
        · have HN := Lib.hid (arenaB_true (zs := zs) (by omega) (by omega) (by rw [HX.out]; exact h3) HW.out)
          go_wp2_with (go_at_call 52; refine (l01In_any _ _ _ _).mono ?_; rintro e w' ⟨rfl, rfl⟩)
          go_ret
          exact ⟨ret_bool HN.out.symm, below_alloc _ _⟩

theorem cellCode_bad {zs : List Int} {p : Int} (h : arenaB zs = false) : cellCode zs p = 1 := by simp [cellCode, h]
theorem cellCode_range {zs : List Int} {p : Int} (h : arenaB zs = true) (h' : ¬ (1 ≤ p ∧ p < zs.length)) : cellCode zs p = 4 := by
  unfold cellCode; rw [if_pos h, if_neg h']
theorem cellCode_ok {zs : List Int} {p : Int} (h : arenaB zs = true) (h' : 1 ≤ p ∧ p < zs.length) : cellCode zs p = 0 := by
  unfold cellCode; rw [if_pos h, if_pos h']
theorem cellCode_zero {zs : List Int} {p : Int} (h : cellCode zs p = 0) : arenaB zs = true ∧ 1 ≤ p ∧ p < zs.length := by
  unfold cellCode at h
  by_cases h1 : arenaB zs = true
  · rw [if_pos h1] at h
    by_cases h2 : 1 ≤ p ∧ p < zs.length
    · exact ⟨h1, h2⟩
    · rw [if_neg h2] at h; cases h
  · rw [if_neg h1] at h; cases h

set_option maxHeartbeats 1000000 in
theorem cellFault_any (A : Option Addr) (c : Nat) (zs : List Int) (p : Int) (w : World) (hn : zs.length ≤ 1048576) (hA : Rd w A zs) :
    Calls Try.prog 118 #[.agg #[.slice A zs.length c], .int .i64 p] w fun e w' => e = .returned (.int .i64 (cellCode zs p)) ∧ Below w.heap.size w w' := by
  have HA := Lib.hid (hA.below (below_alloc w (.cells #[.slice A zs.length c] 25))); clear hA
  cases ha : arenaB zs
  · have HC := Lib.hid (cellCode_bad (p := p) ha)
    have HH := Lib.hid ha; clear ha
    go_enter Try.func118, Try.ntmps118
    go_wp2_with fail
    refine (implArenaOK_any _ _ zs _ hn HA.out).mono ?_
    rintro e w' ⟨rfl, hb⟩
    rw [HH.out]
    have HB := Lib.hid hb
    obtain ⟨hc, hf⟩ := bcell hb
    clear hb
    go_wp2
    go_ret
    exact ⟨ret_int HC.out.symm, below_trans (below_alloc _ _) HB.out⟩
  · have HH := Lib.hid ha
    by_cases hr : 1 ≤ p ∧ p < zs.length
    · have HC := Lib.hid (cellCode_ok ha hr); clear ha
      obtain ⟨hr1, hr2⟩ := hr
      go_enter Try.func118, Try.ntmps118
      go_wp2_with fail
      refine (implArenaOK_any _ _ zs _ hn HA.out).mono ?_
      rintro e w' ⟨rfl, hb⟩
      rw [HH.out]
      have HB := Lib.hid hb
      obtain ⟨hc, hf⟩ := bcell hb
      clear hb
      go_wp2
      go_ret
      exact ⟨ret_int HC.out.symm, below_trans (below_alloc _ _) HB.out⟩
    · have HC := Lib.hid (cellCode_range ha hr); clear ha
      by_cases h1 : p < 1
      · clear hr
        go_enter Try.func118, Try.ntmps118
        go_wp2_with fail
        refine (implArenaOK_any _ _ zs _ hn HA.out).mono ?_
        rintro e w' ⟨rfl, hb⟩
        rw [HH.out]
        have HB := Lib.hid hb
        obtain ⟨hc, hf⟩ := bcell hb
        clear hb
        go_wp2
        go_ret
        exact ⟨ret_int HC.out.symm, below_trans (below_alloc _ _) HB.out⟩
      · have h2 : (zs.length : Int) ≤ p := by omega
        clear hr
        go_enter Try.func118, Try.ntmps118
        go_wp2_with fail
        refine (implArenaOK_any _ _ zs _ hn HA.out).mono ?_
        rintro e w' ⟨rfl, hb⟩
        rw [HH.out]
        have HB := Lib.hid hb
        obtain ⟨hc, hf⟩ := bcell hb
        clear hb
        go_wp2
        go_ret
        exact ⟨ret_int HC.out.symm, below_trans (below_alloc _ _) HB.out⟩

end Go.Proofs.Ytabojajhnhcemaa

namespace Go.Proofs.Ytabojajhnhcemaa
open Go.RowKit

theorem Try.sizeInt : (Try.prog.info? 3).map (·.size) = some 1 := by kernel_rfl
theorem splice_front (zs : List Int) (m : Nat) : splice (ints (List.replicate (zs.length + m) 0)) 0 (ints zs) = ints (zs ++ List.replicate m 0) := by
  simp [splice, ints, List.drop_replicate]

set_option maxHeartbeats 1000000 in
theorem grown_any (A : Option Addr) (c m : Nat) (zs : List Int) (w : World) (hn : zs.length ≤ 1048576) (hm : m ≤ 1048576) (hA : Rd w A zs) :
    Calls Try.prog 58 #[.slice A zs.length c, .int .i64 (m : Nat)] w fun e w' => e = .returned (.slice (some ⟨w.heap.size, 0, none⟩) (zs.length + m) (zs.length + m)) ∧
      w'.ownsRow w.heap.size 3 1 (.slice (some ⟨w.heap.size, 0, none⟩) (zs.length + m) (zs.length + m)) (zs.length + m) (ints (zs ++ List.replicate m 0)) ∧ Below w.heap.size w w' := by
  obtain ⟨i0, hi, hz0, hz1, hz2⟩ := info_parts Try.infoInt
  have hb2 : i0.bytes * (zs.length + m) ≤ 281474976710656 := by rw [hz2]; omega
  have hml : zs.length + m ≤ maxLen := by unfold maxLen; omega
  have Hi := Lib.hid hi; have Hz0 := Lib.hid hz0; have Hz1 := Lib.hid hz1; have Hz2 := Lib.hid hz2
  have Hb2 := Lib.hid hb2; have Hml := Lib.hid hml
  clear hi hz0 hz1 hz2 hb2 hml
  have HA := Lib.hid hA; clear hA
  go_enter Try.func58, Try.ntmps58
  go_wp2_with (at_make; refine wpList_make_full _ rfl (.tmp 9) (.tmp 9) 79 rfl w.heap.size 3 i0 (.int .i64 0) 1 Try.underlying79 Hi.out Hz0.out Hz1.out .i64 .i64 _ _ (zs.length + m) rfl rfl (by simp) (by simp) Hb2.out Hml.out (Nat.le_refl _) ?_)
  intro w1 hown hgr
  have hb := below_grown hgr
  rw [made_zero] at hown
  have HO := Lib.hid (own_full hown); have HB := Lib.hid hb
  clear hown hgr hb
  have HC := Lib.hid (fun h => rd_cells (HA.out.below HB.out) h)
  go_wp2_with (with_reducible refine wpList_copy_splice rfl (.tmp 11) (.tmp 12) 79 79 rfl 3 Try.underlying79 Try.sizeInt _ _ _ _ _ _ rfl rfl w.heap.size 0 (ints (List.replicate (zs.length + m) 0)) 3 HO.out.1 (ints zs) ?_ ?_ ?_ (ints_one _) w.heap.size w HB.out (Nat.le_refl _) ?_)
  · rw [length_ints]; simp
  · rw [length_ints]
    intro h
    exact HC.out h
  · rw [length_ints, length_ints]; simp
  intro w2 HG2 hB2
  have HB2 := Lib.hid hB2; clear hB2
  go_wp2
  go_ret
  refine ⟨rfl, ?_, HB2.out⟩
  have := HG2.out
  rw [splice_front] at this
  exact own_of_full this (Nat.le_refl _) (by simp [length_ints]) Hml.out

theorem set_toNat (zs : List Int) (k : Nat) (v : Int) : zs.set ((k : Int).toNat) v = zs.set k v := by rw [Int.toNat_natCast]

set_option maxHeartbeats 1000000 in
theorem with_any (A : Option Addr) (c k : Nat) (v : Int) (zs : List Int) (w : World) (hn : zs.length ≤ 1048576) (hk : k < zs.length) (hA : Rd w A zs) :
    Calls Try.prog 113 #[.slice A zs.length c, .int .i64 (k : Nat), .int .i64 v] w fun e w' => e = .returned (.slice (some ⟨w.heap.size, 0, none⟩) zs.length zs.length) ∧
      w'.ownsRow w.heap.size 3 1 (.slice (some ⟨w.heap.size, 0, none⟩) zs.length zs.length) zs.length (ints (zs.set k v)) ∧ Below w.heap.size w w' := by
  have HA := Lib.hid hA; clear hA
  go_enter Try.func113, Try.ntmps113
  go_wp2_with fail
  refine (grown_any _ _ 0 zs _ hn (by omega) HA.out).mono ?_
  rintro e w1 ⟨rfl, hown, hb⟩
  simp only [Nat.add_zero, List.replicate_zero, List.append_nil] at hown ⊢
  have hold : w1.cell? ⟨w.heap.size, k, none⟩ = some (.int .i64 (zs.getD k 0)) := by
    rw [World.ownsRow.cellAt hown k (by omega)]; exact ints_get _ _ hk
  have hfz := hown.frozenAt k
  have HS := Lib.hid (hown.stored k (.int .i64 v))
  have HB := Lib.hid hb
  clear hown hb
  generalize hy : zs.getD k 0 = y at *
  clear hy
  go_wp2
  go_ret
  refine ⟨rfl, ?_, HB.out.setCell (Nat.le_refl _) _⟩
  have := HS.out.1
  rwa [ints_set] at this

set_option maxHeartbeats 1000000 in
theorem list_any (A : Option Addr) (n c : Nat) (w : World) :
    Calls Try.prog 57 #[.agg #[.slice A n c]] w fun e w' => e = .returned (.slice A n c) ∧ Below w.heap.size w w' := by
  go_enter Try.func57, Try.ntmps57
  go_wp2
  go_ret
  exact ⟨rfl, below_alloc _ _⟩

/-- A new arena of the list zs, in memory from B on. -/
def NewA (B : Nat) (w : World) (A : Option Addr) (c : Nat) (zs : List Int) : Prop := w.ownsRow B 3 1 (.slice A zs.length c) zs.length (ints zs)
theorem NewA.rd {B : Nat} {w : World} {A : Option Addr} {c : Nat} {zs : List Int} (h : NewA B w A c zs) : Rd w A zs := Rd.of_own h
theorem NewA.nil (B : Nat) (w : World) : NewA B w none 0 [] := World.ownsRow_nil _ _ _ _
theorem NewA.below {B : Nat} {w w' : World} {A : Option Addr} {c : Nat} {zs : List Int} (h : NewA B w A c zs) (hb : Below w.heap.size w w') : NewA B w' A c zs := own_below h hb
theorem NewA.base {B B' : Nat} {w : World} {A : Option Addr} {c : Nat} {zs : List Int} (h : NewA B w A c zs) (hb : B' ≤ B) : NewA B' w A c zs := own_base h hb
theorem NewA.setCell {B : Nat} {w : World} {A : Option Addr} {c : Nat} {zs : List Int} (h : NewA B w A c zs) {a : Addr} (ha : a.block < B) (u : Value) : NewA B (w.setCell a u) A c zs := ownsRow_setCell_below h ha u

set_option maxHeartbeats 1000000 in
theorem copyArena_any (A : Option Addr) (c : Nat) (zs : List Int) (w : World) (hn : zs.length ≤ 1048576) (hA : Rd w A zs) :
    Calls Try.prog 27 #[.agg #[.slice A zs.length c]] w fun e w' => ∃ B d, e = .returned (.agg #[.slice B zs.length d]) ∧ NewA w.heap.size w' B d zs ∧ Below w.heap.size w w' := by
  have HA := Lib.hid hA; clear hA
  go_enter Try.func27, Try.ntmps27
  go_wp2_with fail
  refine (list_any _ _ _ _).mono ?_
  rintro e w1 ⟨rfl, hb⟩
  have HB := Lib.hid hb
  have hz : w.heap.size + 1 < w1.heap.size := by have := hb.size; simp at this; omega
  obtain ⟨hc, hf⟩ := bcell hb
  clear hb
  go_wp2_with fail
  refine (grown_any _ _ 0 zs _ hn (by omega) (HA.out.below (below_trans ((below_alloc _ _).alloc (by simp) _) (HB.out)))).mono ?_
  rintro e w2 ⟨rfl, hown, hb⟩
  simp only [Nat.add_zero, List.replicate_zero, List.append_nil] at hown ⊢
  have HO : Hid (NewA w1.heap.size w2 (some ⟨w1.heap.size, 0, none⟩) zs.length zs) := hown
  have HB2 := Lib.hid (below_trans (below_trans ((below_alloc _ _).alloc (by simp) _) HB.out) hb)
  obtain ⟨hc2, hf2⟩ := bcell hb
  clear hown hb
  go_wp2
  refine bodyPost_ret (v := .agg #[.slice (some ⟨w1.heap.size, 0, none⟩) zs.length zs.length]) (by simp [results, Try.results27, go_sem, hc, hc2, hz]) rfl ⟨_, _, rfl, (HO.out.setCell (by simp <;> omega) _).base (by omega), HB2.out.setCell (by simp) _⟩
end Go.Proofs.Ytabojajhnhcemaa

namespace Go.Proofs.Ytabojajhnhcemaa
open Go.RowKit

theorem run_app_nil {P : Program} (w : World) (base : Nat) (t ty e : TypeId) (i : TypeInfo) (size : Nat) (ht : P.underlying t = some (.slice e)) (hi : P.info? e = some i)
    (v : Value) (n : Nat) (xs : List Value) (hown : w.ownsRow base e size v n xs) (c : Nat) : (Builtin.append_ #[t, t] ty #[v, .slice none 0 c]).run P w = .ok v w := by
  rcases hown.2 with ⟨rfl, _⟩ | ⟨g, cap, cur, rfl, _, _, hnc, _⟩
  · simp [Builtin.append_, run_underlying ht, sizeOf, typeInfo, hi, Builtin.lenOf, Builtin.firstCells]
  · simp [Builtin.append_, run_underlying ht, sizeOf, typeInfo, hi, Builtin.lenOf, Builtin.firstCells, hnc, storeCells]

theorem wpList_append_rd {P : Program} (w : World) {ops : Array Oper} {rest : List Oper} {o : Oper} {a : Act} {Q : Exit → Act → World → Prop} (hgd : o.guard = none) (s x : Operand) (t : TypeId)
    (ho : o.op = .call { callee := .builtin .append, args := #[s, x], argTypes := #[t, t] })
    (base : Nat) (e : TypeId) (i : TypeInfo) (z : Value) (bytes : Nat) (ht : P.underlying t = some (.slice e)) (hi : P.info? e = some i) (hz : i.zero = some z)
    (hsize : i.size = 1) (hby : i.bytes = bytes) (hzs : z.cells.size = 1)
    (v : Value) (xs : List Int) (hs : a.eval s = v) (hown : w.ownsRow base e 1 v xs.length (ints xs))
    (A : Option Addr) (c : Nat) (ys : List Int) (hx : a.eval x = .slice A ys.length c) (hA : Rd w A ys)
    (hbytes : (xs.length + ys.length) * bytes ≤ 140737488355328) (h63 : xs.length + ys.length ≤ maxLen) (hbase : base ≤ w.heap.size)
    (h : ∀ B d w', w'.ownsRow base e 1 (.slice B (xs ++ ys).length d) (xs ++ ys).length (ints (xs ++ ys)) → w.grownBy w' v.ownBlock → wpList P ops Q rest (a.put o.dst (.slice B (xs ++ ys).length d)) w') :
    wpList P ops Q (o :: rest) a w := by
  have hlen : (xs ++ ys).length = xs.length + ys.length := by simp
  have hform : ∀ (v' : Value) (w' : World), w'.ownsRow base e 1 v' (xs.length + ys.length) (ints xs ++ ints ys) → ∃ B d, v' = .slice B (xs ++ ys).length d ∧ w'.ownsRow base e 1 (.slice B (xs ++ ys).length d) (xs ++ ys).length (ints (xs ++ ys)) := by
    intro v' w' ho'
    have he : ints xs ++ ints ys = ints (xs ++ ys) := by simp [ints]
    rw [he] at ho'
    rcases ho'.2 with ⟨rfl, h0⟩ | ⟨g, cap, cur, rfl, r⟩
    · refine ⟨none, 0, ?_, ?_⟩
      · rw [hlen, h0]
      · rw [hlen, h0]; rw [h0] at ho'; exact ho'
    · exact ⟨_, _, by rw [hlen], by rw [hlen]; exact ho'⟩
  rcases A with _ | ad
  · have hm : ys.length = 0 := by
      rcases Nat.eq_zero_or_pos ys.length with h0 | h0
      · exact h0
      · obtain ⟨b, o, h, _⟩ := hA 0 h0
        cases h
    obtain rfl : ys = [] := List.eq_nil_of_length_eq_zero hm
    refine wpList_plain hgd fun K hK' => ?_
    have hrun := run_app_nil (P := P) w base t o.type e i 1 ht hi v xs.length (ints xs) hown c
    obtain ⟨B, d, hv, hown'⟩ := hform v w (by simpa [ints] using hown)
    unfold Oper.wp
    simp [execOp, ho, resolve, invoke, builtin, hs, hx, hrun, Result.andThen]
    rw [hv]
    exact hK' _ _ (h B d w hown' (World.grownBy.refl _ _))
  · refine wpList_append_own w hgd s x t ho base e i z 1 bytes ht hi hz hsize hby hzs (by decide) v xs.length (ints xs) hs hown ad ys.length c (ints ys) hx (by rw [length_ints]; omega) ?_ (ints_one _) h63 hbytes hbase ?_
    · intro j u hu
      have hj : j < ys.length := by have := (List.getElem?_eq_some_iff.1 hu).1; rwa [length_ints] at this
      obtain ⟨ad', hA', hc⟩ := rd_cells hA (by omega)
      obtain rfl := Option.some.inj hA'
      exact hc j u hu
    · intro v' w' h2 h3 _
      obtain ⟨B, d, rfl, hown'⟩ := hform v' w' h2
      exact h B d w' hown' h3

theorem below_alloc4 (w : World) (a b c d : Obj) : Below w.heap.size w ((((w.alloc a).alloc b).alloc c).alloc d) := below_trans (below_alloc3 _ _ _ _) (below_alloc _ _)
theorem own_empty (w0 : World) (base k : Nat) (e : TypeId) (hk : w0.heap.size = k) (hb : base ≤ k) : (w0.alloc (.cells #[] e)).ownsRow base e 1 (.slice (some ⟨k, 0, none⟩) 0 0) ([] : List Int).length (ints []) := by
  subst hk
  exact World.ownsRow_lit w0 #[] 0 hb (Nat.zero_le _) rfl

set_option maxHeartbeats 1000000 in
theorem l01Own_any (A : Option Addr) (c : Nat) (zs : List Int) (w : World) (hn : zs.length ≤ 1048576) (hA : Rd w A zs) :
    Calls Try.prog 33 #[.agg #[.slice A zs.length c]] w fun e w' => ∃ B d, e = .returned (.agg #[.slice B zs.length d]) ∧ NewA w.heap.size w' B d zs ∧ Below w.heap.size w w' := by
  obtain ⟨i0, hi, hz0, hz1, hz2⟩ := info_parts Try.infoInt
  have Hi := Lib.hid hi; have Hz0 := Lib.hid hz0; have Hz1 := Lib.hid hz1; have Hz2 := Lib.hid hz2
  clear hi hz0 hz1 hz2
  have HA := Lib.hid hA; clear hA
  go_enter Try.func33, Try.ntmps33
  go_wp2_with (at_builtin; (refine wpList_append_rd _ rfl (.tmp 3) (.tmp 5) 23 rfl (w.heap.size + 1 + 1) 3 i0 (.int .i64 0) 8 Try.underlying23 Hi.out Hz0.out Hz1.out Hz2.out rfl _ [] rfl (own_empty _ _ _ _ (by simp) (by omega)) A c zs rfl (HA.out.below (below_alloc3 _ _ _ _)) ?_ ?_ ?_ ?_))
  · simp; omega
  · unfold maxLen; simp; omega
  · simp
  intro B d w1 hown hgr
  have HO : Hid (NewA (w.heap.size + 1 + 1) w1 B d zs) := hown
  have hb0 := (Below.refl (w.heap.size + 1 + 1) _).grown hgr (by simp) (by intro k hk; simp [Value.ownBlock] at hk; omega)
  have HB := Lib.hid ((below_alloc3 _ _ _ _).trans (hb0.mono (by omega)))
  have hc : ∀ b o, b < w.heap.size + 1 + 1 → w1.cell? ⟨b, o, none⟩ = _ := fun b o h => hb0.cell (p := ⟨b, o, none⟩) h
  have hf : ∀ b o, b < w.heap.size + 1 + 1 → w1.frozen? ⟨b, o, none⟩ = _ := fun b o h => hb0.frozen (p := ⟨b, o, none⟩) h
  clear hown hgr hb0
  go_wp2
  refine bodyPost_ret (v := .agg #[.slice B zs.length d]) (by simp [results, Try.results33, go_sem, hc]) rfl ⟨_, _, rfl, (HO.out.setCell (by simp) _).base (by omega), HB.out.setCell (by simp) _⟩
end Go.Proofs.Ytabojajhnhcemaa

namespace Go.Proofs.Ytabojajhnhcemaa
open Go.RowKit

def loadVal (zs : List Int) (p : Int) : Int := if cellCode zs p = 0 then zs.getD p.toNat 0 else 0
theorem cellCode_cases (zs : List Int) (p : Int) : cellCode zs p = 0 ∨ cellCode zs p = 1 ∨ cellCode zs p = 4 := by
  unfold cellCode
  by_cases h1 : arenaB zs = true
  · rw [if_pos h1]
    by_cases h2 : 1 ≤ p ∧ p < zs.length
    · rw [if_pos h2]; exact .inl rfl
    · rw [if_neg h2]; exact .inr (.inr rfl)
  · rw [if_neg h1]; exact .inr (.inl rfl)
theorem ret_int2 {k k' : IntKind} {a b a' b' : Int} (h : a = b) (h' : a' = b') : Ending.returned (.tuple #[.int k a, .int k' a']) = .returned (.tuple #[.int k b, .int k' b']) := by rw [h, h']

end Go.Proofs.Ytabojajhnhcemaa

namespace Go.Proofs.Ytabojajhnhcemaa
open Go.RowKit

def writeCode (zs : List Int) (p v : Int) : Int := if cellCode zs p = 0 then (if wordB v = true then 0 else 4) else cellCode zs p
def storeZs (zs : List Int) (p v : Int) : List Int := if writeCode zs p v = 0 then zs.set p.toNat v else []
theorem writeCode_zero {zs : List Int} {p v : Int} (h : writeCode zs p v = 0) : cellCode zs p = 0 ∧ wordB v = true := by
  unfold writeCode at h
  by_cases h1 : cellCode zs p = 0
  · rw [if_pos h1] at h
    cases hw : wordB v
    · rw [hw] at h; simp at h
    · exact ⟨h1, rfl⟩
  · rw [if_neg h1] at h; exact absurd h h1

/-- What a struct result of the model's and the program's looks like: an arena and a code. -/
theorem ret_agg_int {k : IntKind} {v : Value} {a b : Int} (h : a = b) : Ending.returned (.tuple #[.agg #[v], .int k a]) = .returned (.tuple #[.agg #[v], .int k b]) := by rw [h]

set_option maxHeartbeats 1000000 in
theorem writeFault_any (A : Option Addr) (c : Nat) (zs : List Int) (p v : Int) (w : World) (hn : zs.length ≤ 1048576) (hA : Rd w A zs) :
    Calls Try.prog 112 #[.agg #[.slice A zs.length c], .int .i64 p, .int .i64 v] w fun e w' => e = .returned (.int .i64 (writeCode zs p v)) ∧ Below w.heap.size w w' := by
  have HA := Lib.hid (hA.below (below_alloc w (.cells #[.slice A zs.length c] 25))); clear hA
  cases hz : (cellCode zs p != 0)
  · have h0 : cellCode zs p = 0 := by simpa using hz
    cases hw : wordB v
    · have HC : Hid (writeCode zs p v = 4) := by unfold writeCode; rw [if_pos h0, hw]; rfl
      clear h0
      go_enter Try.func112, Try.ntmps112
      go_wp2_with fail
      refine (cellFault_any _ _ zs _ _ hn HA.out).mono ?_
      rintro e w' ⟨rfl, hb⟩
      have HB := Lib.hid hb; clear hb
      go_wp2_with (go_at_call 84; refine (wordOK_any _ _).mono ?_; rintro e w' ⟨rfl, rfl⟩)
      go_ret
      exact ⟨ret_int HC.out.symm, below_trans (below_alloc _ _) HB.out⟩
    · have HC : Hid (writeCode zs p v = 0) := by unfold writeCode; rw [if_pos h0, hw]; rfl
      clear h0
      go_enter Try.func112, Try.ntmps112
      go_wp2_with fail
      refine (cellFault_any _ _ zs _ _ hn HA.out).mono ?_
      rintro e w' ⟨rfl, hb⟩
      have HB := Lib.hid hb; clear hb
      go_wp2_with (go_at_call 84; refine (wordOK_any _ _).mono ?_; rintro e w' ⟨rfl, rfl⟩)
      go_ret
      exact ⟨ret_int HC.out.symm, below_trans (below_alloc _ _) HB.out⟩
  · have HC : Hid (writeCode zs p v = cellCode zs p) := by unfold writeCode; rw [if_neg (by simpa using hz)]; rfl
    go_enter Try.func112, Try.ntmps112
    go_wp2_with fail
    refine (cellFault_any _ _ zs _ _ hn HA.out).mono ?_
    rintro e w' ⟨rfl, hb⟩
    have HB := Lib.hid hb; clear hb
    go_wp2
    go_ret
    exact ⟨ret_int HC.out.symm, below_trans (below_alloc _ _) HB.out⟩

set_option maxHeartbeats 1000000 in
theorem implStoreCell_any (A : Option Addr) (c : Nat) (zs : List Int) (p v : Int) (w : World) (hn : zs.length ≤ 1048576) (hA : Rd w A zs) :
    Calls Try.prog 90 #[.agg #[.slice A zs.length c], .int .i64 p, .int .i64 v] w fun e w' => ∃ B d, e = .returned (.tuple #[.agg #[.slice B (storeZs zs p v).length d], .int .i64 (writeCode zs p v)]) ∧
      NewA w.heap.size w' B d (storeZs zs p v) ∧ Below w.heap.size w w' := by
  have HA := Lib.hid (hA.below (below_alloc2 w (.cells #[.slice A zs.length c] 25) (.cells #[.slice none 0 0] 25))); clear hA
  cases hz : (writeCode zs p v != 0)
  · have h0 : writeCode zs p v = 0 := by simpa using hz
    obtain ⟨hcc, hww⟩ := writeCode_zero h0
    obtain ⟨_, h1, h2⟩ := cellCode_zero hcc
    obtain ⟨k, rfl⟩ := Int.eq_ofNat_of_zero_le (by omega : 0 ≤ p)
    have hk : k < zs.length := by omega
    have HV : Hid (storeZs zs k v = zs.set k v) := by unfold storeZs; rw [if_pos h0, Int.toNat_natCast]; rfl
    have HC := Lib.hid h0; clear h0 hcc hww
    go_enter Try.func90, Try.ntmps90
    go_wp2_with fail
    refine (writeFault_any _ _ zs _ _ _ hn HA.out).mono ?_
    rintro e w1 ⟨rfl, hb⟩
    have HB := Lib.hid (below_trans (below_alloc2 _ _ _) hb)
    have HA1 := Lib.hid (HA.out.below hb)
    have hz1 : w.heap.size + 1 < w1.heap.size := by have := hb.size; simp at this; omega
    have hx1 : w1.cell? ⟨w.heap.size, 0, none⟩ = some (.slice A zs.length c) := cell_keep hb (by simp)
    have hr1 : w1.cell? ⟨w.heap.size + 1, 0, none⟩ = some (.slice none 0 0) := cell_keep hb (by simp)
    have hf1 : w1.frozen? ⟨w.heap.size + 1, 0, none⟩ = false := by rw [hb.frozen (p := ⟨w.heap.size + 1, 0, none⟩) (by simp)]; simp
    clear hb
    go_wp2_with fail
    refine (list_any _ _ _ _).mono ?_
    rintro e w2 ⟨rfl, hb⟩
    have HB2 := Lib.hid (below_trans HB.out hb)
    have HA2 := Lib.hid (HA1.out.below hb)
    have hz2 : w.heap.size + 1 < w2.heap.size := by have := hb.size; omega
    have hr2 : w2.cell? ⟨w.heap.size + 1, 0, none⟩ = some (.slice none 0 0) := cell_keep hb hr1
    have hf2 : w2.frozen? ⟨w.heap.size + 1, 0, none⟩ = false := by rw [hb.frozen (p := ⟨w.heap.size + 1, 0, none⟩) hz1]; exact hf1
    clear hb hx1 hr1 hf1 hz1 HB HA1
    go_wp2_with fail
    refine (with_any _ _ k v zs _ hn hk HA2.out).mono ?_
    rintro e w3 ⟨rfl, hown, hb⟩
    have HB3 := Lib.hid (below_trans HB2.out hb)
    have hr3 : w3.cell? ⟨w.heap.size + 1, 0, none⟩ = some (.slice none 0 0) := cell_keep hb hr2
    have hf3 : w3.frozen? ⟨w.heap.size + 1, 0, none⟩ = false := by rw [hb.frozen (p := ⟨w.heap.size + 1, 0, none⟩) hz2]; exact hf2
    have hl : (zs.set k v).length = zs.length := by simp
    have HO : Hid (NewA w2.heap.size w3 (some ⟨w2.heap.size, 0, none⟩) zs.length (zs.set k v)) := by unfold NewA; rw [hl]; exact hown
    have HL := Lib.hid hl
    clear hb hown hr2 hf2 HB2 HA2 hl
    go_wp2
    refine bodyPost_ret (v := .tuple #[.agg #[.slice (some ⟨w2.heap.size, 0, none⟩) zs.length zs.length], .int .i64 0]) (by simp [results, Try.results90, go_sem, hr3]) rfl ⟨some ⟨w2.heap.size, 0, none⟩, zs.length, ?_, ?_, HB3.out.setCell (by simp) _⟩
    · rw [HV.out, HL.out]; exact ret_agg_int HC.out.symm
    · rw [HV.out]
      exact (HO.out.setCell (by simp <;> omega) _).base (by omega)
  · have HV : Hid (storeZs zs p v = []) := by unfold storeZs; rw [if_neg (by simpa using hz)]; rfl
    go_enter Try.func90, Try.ntmps90
    go_wp2_with fail
    refine (writeFault_any _ _ zs _ _ _ hn HA.out).mono ?_
    rintro e w1 ⟨rfl, hb⟩
    have HB := Lib.hid (below_trans (below_alloc2 _ _ _) hb)
    have hr1 : w1.cell? ⟨w.heap.size + 1, 0, none⟩ = some (.slice none 0 0) := cell_keep hb (by simp)
    have hf1 : w1.frozen? ⟨w.heap.size + 1, 0, none⟩ = false := by rw [hb.frozen (p := ⟨w.heap.size + 1, 0, none⟩) (by simp)]; simp
    clear hb
    go_wp2
    refine bodyPost_ret (v := .tuple #[.agg #[.slice none 0 0], .int .i64 (writeCode zs p v)]) (by simp [results, Try.results90, go_sem, hr1]) rfl ⟨none, 0, ?_, ?_, HB.out.setCell (by simp) _⟩
    · rw [HV.out]; rfl
    · rw [HV.out]; exact NewA.nil _ _
end Go.Proofs.Ytabojajhnhcemaa

namespace Go.Proofs.Ytabojajhnhcemaa
open Go.RowKit

def loadZ (zs : List Int) (p : Int) : Int := if inB p 1 ((zs.length : Int) - 1) = true then zs.getD p.toNat 0 else 0
def putZ (zs : List Int) (p v : Int) : List Int := if inB p 1 ((zs.length : Int) - 1) = true ∧ wordB v = true then zs.set p.toNat v else zs
theorem putZ_length (zs : List Int) (p v : Int) : (putZ zs p v).length = zs.length := by
  unfold putZ; split <;> simp

set_option maxHeartbeats 1000000 in
theorem l01Load_any (A : Option Addr) (c : Nat) (zs : List Int) (p : Int) (w : World) (hn : zs.length ≤ 1048576) (hA : Rd w A zs) :
    Calls Try.prog 101 #[.agg #[.slice A zs.length c], .int .i64 p] w fun e w' => e = .returned (.int .i64 (loadZ zs p)) ∧ Below w.heap.size w w' := by
  have HA := Lib.hid (hA.below (below_alloc w (.cells #[.slice A zs.length c] 25))); clear hA
  cases hi : inB p 1 ((zs.length : Int) - 1)
  · have HV : Hid (loadZ zs p = 0) := by unfold loadZ; rw [if_neg (by rw [hi]; decide)]; rfl
    go_enter Try.func101, Try.ntmps101
    go_wp2_with (go_at_call 52; refine (l01In_any _ _ _ _).mono ?_; rintro e w' ⟨rfl, rfl⟩)
    go_ret
    exact ⟨ret_int HV.out.symm, below_alloc _ _⟩
  · have hb := inB_true hi
    obtain ⟨k, rfl⟩ := Int.eq_ofNat_of_zero_le (by omega : 0 ≤ p)
    have hk : k < zs.length := by omega
    have HV : Hid (loadZ zs k = zs.getD k 0) := by unfold loadZ; rw [if_pos hi, Int.toNat_natCast]; rfl
    obtain ⟨b, o, rfl, hcell⟩ := HA.out k hk
    generalize hx : zs.getD k 0 = x at *
    clear hx
    go_enter Try.func101, Try.ntmps101
    go_wp2_with (go_at_call 52; refine (l01In_any _ _ _ _).mono ?_; rintro e w' ⟨rfl, rfl⟩)
    go_ret
    exact ⟨ret_int HV.out.symm, below_alloc _ _⟩

theorem NewA.put {B : Nat} {w : World} {g c : Nat} {zs : List Int} (h : NewA B w (some ⟨g, 0, none⟩) c zs) (k : Nat) (v : Int) : NewA B (w.setCell ⟨g, k, none⟩ (.int .i64 v)) (some ⟨g, 0, none⟩) c (zs.set k v) := by
  unfold NewA at *
  have := (h.stored k (.int .i64 v)).1
  rw [ints_set] at this
  rwa [List.length_set]

theorem eqArena_same (A B : Option Addr) (c d : Nat) (xs : List Int) (w : World) (hn : xs.length ≤ maxLen) (hA : Rd w A xs) (hB : Rd w B xs) :
    Calls Try.prog 18 #[.agg #[.slice A xs.length c], .agg #[.slice B xs.length d]] w fun e w' => e = .returned (.bool true) ∧ Below w.heap.size w w' :=
  (eqArena_any A B c d xs xs w hn hn hA hB).mono fun e w' ⟨he, hb⟩ => ⟨by rw [he, decide_eq_true rfl], hb⟩
theorem NewA.kept {B : Nat} {w w' : World} {A : Option Addr} {c : Nat} {zs : List Int} {row : Option Nat} (h : NewA B w A c zs) (hg : w.grownBy w' row) (hne : Value.ownBlock (.slice A zs.length c) = none ∨ Value.ownBlock (.slice A zs.length c) ≠ row) : NewA B w' A c zs := World.ownsRow.kept h hg hne
theorem ranges_ne {v u : Value} {lo hi lo' hi' : Nat} (h1 : ∀ k, v.ownBlock = some k → lo ≤ k ∧ k < hi) (h2 : ∀ k, u.ownBlock = some k → lo' ≤ k ∧ k < hi') (hd : hi ≤ lo' ∨ hi' ≤ lo) : v.ownBlock = none ∨ v.ownBlock ≠ u.ownBlock := by
  cases hv : v.ownBlock with
  | none => exact .inl rfl
  | some k =>
    refine .inr fun e => ?_
    have a := h1 k hv
    have b := h2 k e.symm
    omega
theorem storeZs_len (zs : List Int) (p v : Int) : (storeZs zs p v).length ≤ zs.length := by
  unfold storeZs; split <;> simp

theorem frozen_keep {w w' : World} (hb : Below w.heap.size w w') {b o : Nat} (hlt : b < w.heap.size) (h : w.frozen? ⟨b, o, none⟩ = false) : w'.frozen? ⟨b, o, none⟩ = false :=
  (hb.frozen (p := ⟨b, o, none⟩) hlt).trans h

set_option maxHeartbeats 1000000 in
theorem l01Store_any (A : Option Addr) (c : Nat) (zs : List Int) (p v : Int) (w : World) (hn : zs.length ≤ 1048576) (hA : Rd w A zs) :
    Calls Try.prog 117 #[.agg #[.slice A zs.length c], .int .i64 p, .int .i64 v] w fun e w' => ∃ B d, e = .returned (.agg #[.slice B zs.length d]) ∧ NewA w.heap.size w' B d (putZ zs p v) ∧ Below w.heap.size w w' := by
  have HA := Lib.hid (hA.below (below_alloc2 w (.cells #[.slice A zs.length c] 25) (.cells #[.slice none 0 0] 25))); clear hA
  have HL := Lib.hid (putZ_length zs p v)
  cases hi : inB p 1 ((zs.length : Int) - 1)
  · have HV : Hid (putZ zs p v = zs) := by unfold putZ; rw [if_neg (by rw [hi]; intro h; cases h.1)]; rfl
    go_enter Try.func117, Try.ntmps117
    go_wp2_with fail
    refine (l01Own_any _ _ zs _ hn HA.out).mono ?_
    rintro e w1 ⟨B, d, rfl, hnew, hb⟩
    have HB := Lib.hid (below_trans (below_alloc2 _ _ _) hb)
    have hx1 : w1.cell? ⟨w.heap.size, 0, none⟩ = some (.slice A zs.length c) := cell_keep hb (by simp)
    have hfx1 : w1.frozen? ⟨w.heap.size, 0, none⟩ = false := frozen_keep hb (by simp <;> omega) (by simp)
    have hr1 : w1.cell? ⟨w.heap.size + 1, 0, none⟩ = some (.slice none 0 0) := cell_keep hb (by simp)
    have hf1 : w1.frozen? ⟨w.heap.size + 1, 0, none⟩ = false := frozen_keep hb (by simp) (by simp)
    have HO := Lib.hid hnew
    clear hb hnew
    go_wp2_with (go_at_call 52; refine (l01In_any _ _ _ _).mono ?_; rintro e w' ⟨rfl, rfl⟩)
    refine bodyPost_ret (v := .agg #[.slice B zs.length d]) (by simp [results, Try.results117, go_sem, hr1]) rfl ⟨B, d, rfl, ?_, (HB.out.setCell (by simp) _).setCell (by simp) _⟩
    rw [HV.out]
    exact ((HO.out.setCell (by simp <;> omega) _).setCell (by simp) _).base (by simp <;> omega)
  · cases hw : wordB v
    · have HV : Hid (putZ zs p v = zs) := by unfold putZ; rw [if_neg (by rw [hw]; intro h; cases h.2)]; rfl
      go_enter Try.func117, Try.ntmps117
      go_wp2_with fail
      refine (l01Own_any _ _ zs _ hn HA.out).mono ?_
      rintro e w1 ⟨B, d, rfl, hnew, hb⟩
      have HB := Lib.hid (below_trans (below_alloc2 _ _ _) hb)
      have hx1 : w1.cell? ⟨w.heap.size, 0, none⟩ = some (.slice A zs.length c) := cell_keep hb (by simp)
      have hfx1 : w1.frozen? ⟨w.heap.size, 0, none⟩ = false := frozen_keep hb (by simp <;> omega) (by simp)
      have hr1 : w1.cell? ⟨w.heap.size + 1, 0, none⟩ = some (.slice none 0 0) := cell_keep hb (by simp)
      have hf1 : w1.frozen? ⟨w.heap.size + 1, 0, none⟩ = false := frozen_keep hb (by simp) (by simp)
      have HO := Lib.hid hnew
      clear hb hnew
      go_wp2_with (first | (go_at_call 52; refine (l01In_any _ _ _ _).mono ?_; rintro e w' ⟨rfl, rfl⟩) | (go_at_call 97; refine (l01Word_any _ _).mono ?_; rintro e w' ⟨rfl, rfl⟩))
      refine bodyPost_ret (v := .agg #[.slice B zs.length d]) (by simp [results, Try.results117, go_sem, hr1]) rfl ⟨B, d, rfl, ?_, (HB.out.setCell (by simp) _).setCell (by simp) _⟩
      rw [HV.out]
      exact ((HO.out.setCell (by simp <;> omega) _).setCell (by simp) _).base (by simp <;> omega)
    · have hbd := inB_true hi
      obtain ⟨k, rfl⟩ := Int.eq_ofNat_of_zero_le (by omega : 0 ≤ p)
      have hk : k < zs.length := by omega
      have HV : Hid (putZ zs k v = zs.set k v) := by unfold putZ; rw [if_pos ⟨hi, hw⟩, Int.toNat_natCast]; rfl
      go_enter Try.func117, Try.ntmps117
      go_wp2_with fail
      refine (l01Own_any _ _ zs _ hn HA.out).mono ?_
      rintro e w1 ⟨B, d, rfl, hnew, hb⟩
      obtain ⟨g, rfl, hg⟩ : ∃ g, B = some ⟨g, 0, none⟩ ∧ w.heap.size + 1 + 1 ≤ g := by
        rcases hnew.2 with ⟨hv, h0⟩ | ⟨g, cap, cur, hv, hg, _⟩
        · omega
        · simp only [Value.slice.injEq] at hv
          exact ⟨g, hv.1, by simpa using hg⟩
      have HB := Lib.hid (below_trans (below_alloc2 _ _ _) hb)
      have hx1 : w1.cell? ⟨w.heap.size, 0, none⟩ = some (.slice A zs.length c) := cell_keep hb (by simp)
      have hfx1 : w1.frozen? ⟨w.heap.size, 0, none⟩ = false := frozen_keep hb (by simp <;> omega) (by simp)
      have hr1 : w1.cell? ⟨w.heap.size + 1, 0, none⟩ = some (.slice none 0 0) := cell_keep hb (by simp)
      have hf1 : w1.frozen? ⟨w.heap.size + 1, 0, none⟩ = false := frozen_keep hb (by simp) (by simp)
      have hown := hnew
      unfold NewA at hown
      have hold : w1.cell? ⟨g, k, none⟩ = some (.int .i64 (zs.getD k 0)) := by
        rw [World.ownsRow.cellAt hown k (by omega)]; exact ints_get _ _ hk
      have hfz := hown.frozenAt k
      generalize hy : zs.getD k 0 = y at *
      have HO : Hid (NewA (w.heap.size + 1 + 1) w1 (some ⟨g, 0, none⟩) d zs) := hnew.base (by simp)
      clear hb hnew hown hy
      have hne1 : g ≠ w.heap.size := by omega
      have hne2 : g ≠ w.heap.size + 1 := by omega
      go_wp2_with (first | (go_at_call 52; refine (l01In_any _ _ _ _).mono ?_; rintro e w' ⟨rfl, rfl⟩) | (go_at_call 97; refine (l01Word_any _ _).mono ?_; rintro e w' ⟨rfl, rfl⟩))
      refine bodyPost_ret (v := .agg #[.slice (some ⟨g, 0, none⟩) zs.length d]) (by simp [results, Try.results117, go_sem, hr1]) rfl ⟨some ⟨g, 0, none⟩, d, rfl, ?_, ((HB.out.setCell (by simp) _).setCell (by simp <;> omega) _).setCell (by simp) _⟩
      rw [HV.out]
      exact (((HO.out.setCell (by simp <;> omega) _).put k v).setCell (by simp) _).base (by omega)

end Go.Proofs.Ytabojajhnhcemaa

namespace Go.Proofs.Ytabojajhnhcemaa
open Go.RowKit

def casB (zs : List Int) (p old v : Int) : Bool := (writeCode zs p v == 0) && (zs.getD p.toNat 0 == old)
def casZs (zs : List Int) (p old v : Int) : List Int := if writeCode zs p v = 0 then (if (zs.getD p.toNat 0 == old) = true then zs.set p.toNat v else zs) else []
theorem casZs_len (zs : List Int) (p old v : Int) : (casZs zs p old v).length ≤ zs.length := by
  unfold casZs; split
  · split <;> simp
  · simp
theorem ret_agg_bool_int {k : IntKind} {v : Value} {b b' : Bool} {x y : Int} (h : x = y) (hb : b = b') : Ending.returned (.tuple #[.agg #[v], .bool b, .int k x]) = .returned (.tuple #[.agg #[v], .bool b', .int k y]) := by rw [h, hb]
theorem ret_agg_int_int {k : IntKind} {v : Value} {b b' : Int} {x y : Int} (h : x = y) (hb : b = b') : Ending.returned (.tuple #[.agg #[v], .int k b, .int k x]) = .returned (.tuple #[.agg #[v], .int k b', .int k y]) := by rw [h, hb]

/-- l01Cas: where the cell is there and the number fits. -/
theorem putZ_of {zs : List Int} {k : Nat} {v : Int} (hk1 : 1 ≤ k) (hk : k < zs.length) (hw : wordB v = true) : putZ zs k v = zs.set k v := by
  unfold putZ; rw [if_pos ⟨by simp [inB]; omega, hw⟩, Int.toNat_natCast]
theorem loadZ_of {zs : List Int} {k : Nat} (hk1 : 1 ≤ k) (hk : k < zs.length) : loadZ zs k = zs.getD k 0 := by
  unfold loadZ; rw [if_pos (by simp [inB]; omega), Int.toNat_natCast]

set_option maxHeartbeats 1000000 in
theorem l01Cas_any (A : Option Addr) (c k : Nat) (zs : List Int) (old v : Int) (w : World) (hn : zs.length ≤ 1048576) (hk1 : 1 ≤ k) (hk : k < zs.length) (hw : wordB v = true) (hA : Rd w A zs) :
    Calls Try.prog 106 #[.agg #[.slice A zs.length c], .int .i64 (k : Nat), .int .i64 old, .int .i64 v] w fun e w' => ∃ B d, e = .returned (.tuple #[.agg #[.slice B zs.length d], .bool (zs.getD k 0 == old)]) ∧
      NewA w.heap.size w' B d (if (zs.getD k 0 == old) = true then zs.set k v else zs) ∧ Below w.heap.size w w' := by
  have HA := Lib.hid (hA.below (below_alloc2 w (.cells #[.slice A zs.length c] 25) (.cells #[.slice none 0 0] 25))); clear hA
  have HP := Lib.hid (putZ_of hk1 hk hw)
  have HZ := Lib.hid (loadZ_of hk1 hk)
  clear hw
  cases he : (zs.getD k 0 == old)
  · have hne : (zs.getD k 0 != old) = true := by simp only [bne, he]; rfl
    go_enter Try.func106, Try.ntmps106
    go_wp2_with fail
    refine (l01Load_any _ _ zs _ _ hn HA.out).mono ?_
    rintro e w1 ⟨rfl, hb⟩
    have HB := Lib.hid (below_trans (below_alloc2 _ _ _) hb)
    have HA1 := Lib.hid (HA.out.below hb)
    have hz1 : w.heap.size + 1 < w1.heap.size := by have := hb.size; simp at this; omega
    have hx1 : w1.cell? ⟨w.heap.size, 0, none⟩ = some (.slice A zs.length c) := cell_keep hb (by simp)
    have hr1 : w1.cell? ⟨w.heap.size + 1, 0, none⟩ = some (.slice none 0 0) := cell_keep hb (by simp)
    have hf1 : w1.frozen? ⟨w.heap.size + 1, 0, none⟩ = false := frozen_keep hb (by simp) (by simp)
    clear hb
    rw [HZ.out]
    generalize zs.getD k 0 = x at *
    go_wp2_with fail
    refine (l01Own_any _ _ zs _ hn HA1.out).mono ?_
    rintro e w2 ⟨B, d, rfl, hnew, hb⟩
    have HB2 := Lib.hid (below_trans HB.out hb)
    have hr2 : w2.cell? ⟨w.heap.size + 1, 0, none⟩ = some (.slice none 0 0) := cell_keep hb hr1
    have hf2 : w2.frozen? ⟨w.heap.size + 1, 0, none⟩ = false := frozen_keep hb hz1 hf1
    have HO := Lib.hid hnew
    clear hb hnew hx1 hr1 hf1
    go_wp2
    refine bodyPost_ret (v := .tuple #[.agg #[.slice B zs.length d], .bool false]) (by simp [results, Try.results106, go_sem, hr2]) rfl ⟨B, d, rfl, ?_, HB2.out.setCell (by simp) _⟩
    exact (HO.out.setCell (by simp <;> omega) _).base (by omega)
  · have hne : (zs.getD k 0 != old) = false := by simp only [bne, he]; rfl
    go_enter Try.func106, Try.ntmps106
    go_wp2_with fail
    refine (l01Load_any _ _ zs _ _ hn HA.out).mono ?_
    rintro e w1 ⟨rfl, hb⟩
    have HB := Lib.hid (below_trans (below_alloc2 _ _ _) hb)
    have HA1 := Lib.hid (HA.out.below hb)
    have hz1 : w.heap.size + 1 < w1.heap.size := by have := hb.size; simp at this; omega
    have hx1 : w1.cell? ⟨w.heap.size, 0, none⟩ = some (.slice A zs.length c) := cell_keep hb (by simp)
    have hr1 : w1.cell? ⟨w.heap.size + 1, 0, none⟩ = some (.slice none 0 0) := cell_keep hb (by simp)
    have hf1 : w1.frozen? ⟨w.heap.size + 1, 0, none⟩ = false := frozen_keep hb (by simp) (by simp)
    clear hb
    rw [HZ.out]
    generalize zs.getD k 0 = x at *
    go_wp2_with fail
    refine (l01Store_any _ _ zs _ _ _ hn HA1.out).mono ?_
    rintro e w2 ⟨B, d, rfl, hnew, hb⟩
    have HB2 := Lib.hid (below_trans HB.out hb)
    have hr2 : w2.cell? ⟨w.heap.size + 1, 0, none⟩ = some (.slice none 0 0) := cell_keep hb hr1
    have hf2 : w2.frozen? ⟨w.heap.size + 1, 0, none⟩ = false := frozen_keep hb hz1 hf1
    rw [HP.out] at hnew
    have HO := Lib.hid hnew
    clear hb hnew hx1 hr1 hf1
    go_wp2
    refine bodyPost_ret (v := .tuple #[.agg #[.slice B zs.length d], .bool true]) (by simp [results, Try.results106, go_sem, hr2]) rfl ⟨B, d, rfl, ?_, HB2.out.setCell (by simp) _⟩
    exact (HO.out.setCell (by simp <;> omega) _).base (by omega)
end Go.Proofs.Ytabojajhnhcemaa

namespace Go.Proofs.Ytabojajhnhcemaa
open Go.RowKit

def addCode (zs : List Int) (p n : Int) : Int := if writeCode zs p n = 0 then (if wordB (zs.getD p.toNat 0 + n) = true then 0 else 4) else writeCode zs p n
def addZs (zs : List Int) (p n : Int) : List Int := if addCode zs p n = 0 then zs.set p.toNat (zs.getD p.toNat 0 + n) else []
def addWas (zs : List Int) (p n : Int) : Int := if addCode zs p n = 0 then zs.getD p.toNat 0 else 0
theorem addZs_len (zs : List Int) (p n : Int) : (addZs zs p n).length ≤ zs.length := by
  unfold addZs; split <;> simp
theorem word_at {zs : List Int} {k : Nat} (ha : arenaB zs = true) (hk : k < zs.length) : -1000000000 ≤ zs.getD k 0 ∧ zs.getD k 0 ≤ 1000000000 :=
  (wordB_iff _).1 ((wordsB_iff zs).1 (arenaB_parts ha).2.2.2 k hk)

end Go.Proofs.Ytabojajhnhcemaa

namespace Go.Proofs.Ytabojajhnhcemaa
open Go.RowKit

end Go.Proofs.Ytabojajhnhcemaa

namespace Go.Proofs.Ytabojajhnhcemaa
open Go.RowKit

set_option maxHeartbeats 1000000 in
theorem sameInts_any (A B : Option Addr) (c d : Nat) (xs ys : List Int) (w : World) (hn : xs.length ≤ maxLen) (hm : ys.length ≤ maxLen) (hA : Rd w A xs) (hB : Rd w B ys) :
    Calls Try.prog 11 #[.slice A xs.length c, .slice B ys.length d] w fun e w' => e = .returned (.bool (decide (xs = ys))) ∧ ∃ n, w' = w.drewN n := by
  unfold maxLen at hn hm
  by_cases hl : xs.length = ys.length
  · have hl' : ((xs.length : Int) != (ys.length : Int)) = false := by simp [hl]
    have HL := Lib.hid hl; clear hl
    have HA := Lib.hid hA; have HB := Lib.hid hB; clear hA hB
    go_enter Try.func11, Try.ntmps11
    go_wp2
    go_loopw [5] (fun i wr => ∃ k : Nat, k ≤ xs.length ∧ i = .int .i64 k ∧ (∀ j, j < k → xs.getD j 0 = ys.getD j 0) ∧ ∃ n, wr = w.drewN n) (fun i _ => xs.length - (intOf i).toNat)
    case atStart => exact ⟨0, Nat.zero_le _, rfl, fun j hj => absurd hj (by omega), 0, rfl⟩
    case round =>
      obtain ⟨k, hk, rfl, hsame, n, rfl⟩ := hrel
      have HS := Lib.hid hsame; clear hsame
      by_cases hlt : k < xs.length
      · have hlt' : k < ys.length := by have := HL.out; omega
        obtain ⟨b, o, rfl, hcell⟩ := HA.out k hlt
        obtain ⟨b', o', rfl, hcell'⟩ := HB.out k hlt'
        generalize hx : xs.getD k 0 = x at *
        generalize hy : ys.getD k 0 = y at *
        have HX := Lib.hid hx; have HY := Lib.hid hy; clear hx hy
        by_cases hxy : x = y
        · subst hxy
          go_wp2
          go_region
          all_goals
            go_wp2
            go_roundw
            case rel => exact ⟨k + 1, by omega, by go_num, fun j hj => by
              by_cases e : j < k
              · exact HS.out j e
              · obtain rfl : j = k := by omega
                rw [HX.out, HY.out], n + 1, rfl⟩
            case measure => simp [intOf]; omega
        · have hne : (x != y) = true := by simp [hxy]
          have HN : Hid (decide (xs = ys) = false) := by
            apply decide_eq_false
            rintro rfl
            exact hxy (HX.out.symm.trans HY.out)
          clear hxy
          go_wp2
          go_region
          all_goals
            go_wp2
            go_ret
            exact ⟨ret_bool HN.out.symm, n + 1, rfl⟩
      · have HN : Hid (decide (xs = ys) = true) := by
          apply decide_eq_true
          apply List.ext_getElem? 
          intro j
          by_cases hj : j < xs.length
          · have h1 := HS.out j (by omega)
            have hj' : j < ys.length := by have := HL.out; omega
            simp only [List.getD, List.getElem?_eq_getElem hj, List.getElem?_eq_getElem hj', Option.getD_some] at h1
            rw [List.getElem?_eq_getElem hj, List.getElem?_eq_getElem hj', h1]
          · rw [List.getElem?_eq_none (by omega), List.getElem?_eq_none (by have := HL.out; omega)]
        go_wp2
        go_ret
        exact ⟨ret_bool HN.out.symm, n, rfl⟩
  · have hl' : ((xs.length : Int) != (ys.length : Int)) = true := by simp; omega
    have HN : Hid (decide (xs = ys) = false) := by
      apply decide_eq_false
      rintro rfl
      exact hl rfl
    clear hl
    go_enter Try.func11, Try.ntmps11
    go_wp2
    go_ret
    exact ⟨ret_bool HN.out.symm, 0, rfl⟩

end Go.Proofs.Ytabojajhnhcemaa

namespace Go.Proofs.Ytabojajhnhcemaa
open Go.RowKit

theorem splice_back (zs ls : List Int) : splice (ints (zs ++ List.replicate ls.length 0)) zs.length (ints ls) = ints (zs ++ ls) := by
  simp [splice, ints, List.drop_append]

set_option maxHeartbeats 1000000 in
theorem joined_any (A B : Option Addr) (c d : Nat) (zs ls : List Int) (w : World) (hn : zs.length ≤ 1048576) (hm : ls.length ≤ 1048576) (hp : 0 < ls.length) (hA : Rd w A zs) (hB : Rd w B ls) :
    Calls Try.prog 115 #[.slice A zs.length c, .slice B ls.length d] w fun e w' => e = .returned (.slice (some ⟨w.heap.size, 0, none⟩) (zs.length + ls.length) (zs.length + ls.length)) ∧
      NewA w.heap.size w' (some ⟨w.heap.size, 0, none⟩) (zs.length + ls.length) (zs ++ ls) ∧ Below w.heap.size w w' := by
  have HA := Lib.hid hA; have HBB := Lib.hid hB; clear hA hB
  have hne : ls ≠ [] := by rintro rfl; simp at hp
  go_enter Try.func115, Try.ntmps115
  go_wp2_with fail
  refine (grown_any _ _ ls.length zs _ hn hm HA.out).mono ?_
  rintro e w1 ⟨rfl, hown, hb⟩
  have HO := Lib.hid (own_full hown); have HB := Lib.hid hb
  have HC := Lib.hid (rd_cells (HBB.out.below hb) hp)
  clear hown hb
  have hlt : ¬ (zs.length + ls.length = zs.length) := by omega
  go_wp2_with (with_reducible refine wpList_copy_splice rfl (.tmp 13) (.tmp 14) 79 79 rfl 3 Try.underlying79 Try.sizeInt _ _ _ _ _ _ rfl rfl w.heap.size zs.length (ints (zs ++ List.replicate ls.length 0)) 3 HO.out.1 (ints ls) ?_ ?_ ?_ (ints_one _) w.heap.size w HB.out (Nat.le_refl _) ?_)
  · rw [length_ints]; simp
  · intro _
    exact HC.out
  · rw [length_ints, length_ints]; simp
  intro w2 HG2 hB2
  have HB2 := Lib.hid hB2; clear hB2
  go_wp2
  go_ret
  refine ⟨rfl, ?_, HB2.out⟩
  have := HG2.out
  rw [splice_back] at this
  have h2 := own_of_full (n := zs.length + ls.length) this (Nat.le_refl _) (by simp [length_ints]) (by unfold maxLen; omega)
  unfold NewA
  rw [List.length_append]
  exact h2

def faultCode (zs ls : List Int) : Int :=
  if 4096 < ls.length then 2 else if arenaB zs = false then 1 else if ls.length < 1 ∨ 8 < ls.length then 8 else if wordsB ls = false then 4 else 0
def allocCode (zs ls : List Int) : Int := if faultCode zs ls = 0 then (if 400 < zs.length + ls.length then 7 else 0) else faultCode zs ls
def allocZs (zs ls : List Int) : List Int := if faultCode zs ls = 0 then (if 400 < zs.length + ls.length then zs else zs ++ ls) else []
def allocAt (zs ls : List Int) : Int := if faultCode zs ls = 0 then (if 400 < zs.length + ls.length then 0 else zs.length) else 0
theorem allocZs_len (zs ls : List Int) : (allocZs zs ls).length ≤ zs.length + ls.length := by
  unfold allocZs; split
  · split <;> simp
  · simp
theorem allocZs_small (zs ls : List Int) (h : zs.length ≤ 1048576) : (allocZs zs ls).length ≤ 1048576 := by
  unfold allocZs; split
  · split
    · exact h
    · simp; omega
  · simp
theorem faultCode_zero {zs ls : List Int} (h : faultCode zs ls = 0) : ls.length ≤ 4096 ∧ arenaB zs = true ∧ 1 ≤ ls.length ∧ ls.length ≤ 8 ∧ wordsB ls = true := by
  unfold faultCode at h
  by_cases h1 : 4096 < ls.length
  · rw [if_pos h1] at h; cases h
  rw [if_neg h1] at h
  by_cases h2 : arenaB zs = false
  · rw [if_pos h2] at h; cases h
  rw [if_neg h2] at h
  by_cases h3 : ls.length < 1 ∨ 8 < ls.length
  · rw [if_pos h3] at h; cases h
  rw [if_neg h3] at h
  by_cases h4 : wordsB ls = false
  · rw [if_pos h4] at h; cases h
  exact ⟨by omega, by simpa using h2, by omega, by omega, by simpa using h4⟩

set_option maxHeartbeats 1000000 in
theorem allocFault_any (A B : Option Addr) (c d : Nat) (zs ls : List Int) (w : World) (hn : zs.length ≤ 1048576) (hm : ls.length ≤ 1048576) (hA : Rd w A zs) (hB : Rd w B ls) :
    Calls Try.prog 114 #[.agg #[.slice A zs.length c], .slice B ls.length d] w fun e w' => e = .returned (.int .i64 (faultCode zs ls)) ∧ Below w.heap.size w w' := by
  have HA := Lib.hid (hA.below (below_alloc w (.cells #[.slice A zs.length c] 25)))
  have HBB := Lib.hid (hB.below (below_alloc w (.cells #[.slice A zs.length c] 25)))
  clear hA hB
  by_cases h1 : 4096 < ls.length
  · have HC : Hid (faultCode zs ls = 2) := by unfold faultCode; rw [if_pos h1]; rfl
    go_enter Try.func114, Try.ntmps114
    go_wp2
    go_ret
    exact ⟨ret_int HC.out.symm, below_alloc _ _⟩
  cases ha : arenaB zs
  · have HC : Hid (faultCode zs ls = 1) := by unfold faultCode; rw [if_neg h1, if_pos ha]; rfl
    have HH := Lib.hid ha; clear ha
    go_enter Try.func114, Try.ntmps114
    go_wp2_with fail
    refine (implArenaOK_any _ _ zs _ hn HA.out).mono ?_
    rintro e w1 ⟨rfl, hb⟩
    rw [HH.out]
    have HB1 := Lib.hid (below_trans (below_alloc _ _) hb); clear hb
    go_wp2
    go_ret
    exact ⟨ret_int HC.out.symm, HB1.out⟩
  have HH := Lib.hid ha
  have hna : ¬ arenaB zs = false := by rw [ha]; decide
  by_cases h3 : ls.length < 1
  · have HC : Hid (faultCode zs ls = 8) := by unfold faultCode; rw [if_neg h1, if_neg hna, if_pos (.inl h3)]; rfl
    have hd : decide (ls.length < 1) = true := decide_eq_true h3
    clear ha hna
    go_enter Try.func114, Try.ntmps114
    go_wp2_with fail
    refine (implArenaOK_any _ _ zs _ hn HA.out).mono ?_
    rintro e w1 ⟨rfl, hb⟩
    rw [HH.out]
    have HB1 := Lib.hid (below_trans (below_alloc _ _) hb); clear hb
    go_wp2
    go_ret
    exact ⟨ret_int HC.out.symm, HB1.out⟩
  have hd1 : decide (ls.length < 1) = false := decide_eq_false h3
  by_cases h4 : 8 < ls.length
  · have HC : Hid (faultCode zs ls = 8) := by unfold faultCode; rw [if_neg h1, if_neg hna, if_pos (.inr h4)]; rfl
    clear ha hna
    go_enter Try.func114, Try.ntmps114
    go_wp2_with fail
    refine (implArenaOK_any _ _ zs _ hn HA.out).mono ?_
    rintro e w1 ⟨rfl, hb⟩
    rw [HH.out]
    have HB1 := Lib.hid (below_trans (below_alloc _ _) hb); clear hb
    go_wp2
    go_ret
    exact ⟨ret_int HC.out.symm, HB1.out⟩
  have hd2 : decide (8 < ls.length) = false := decide_eq_false h4
  have hn8 : ¬ (ls.length < 1 ∨ 8 < ls.length) := by omega
  cases hw : wordsB ls
  · have HC : Hid (faultCode zs ls = 4) := by unfold faultCode; rw [if_neg h1, if_neg hna, if_neg hn8, if_pos hw]; rfl
    have HW := Lib.hid hw
    clear ha hna hn8 hw
    go_enter Try.func114, Try.ntmps114
    go_wp2_with fail
    refine (implArenaOK_any _ _ zs _ hn HA.out).mono ?_
    rintro e w1 ⟨rfl, hb⟩
    rw [HH.out]
    have HB1 := Lib.hid (below_trans (below_alloc _ _) hb)
    have HBB1 := Lib.hid (HBB.out.below hb); clear hb
    go_wp2_with fail
    refine (wordsOK_any _ _ ls _ hm HBB1.out).mono ?_
    rintro e w' ⟨rfl, rfl⟩
    rw [HW.out]
    go_wp2
    go_ret
    exact ⟨ret_int HC.out.symm, HB1.out⟩
  · have HC : Hid (faultCode zs ls = 0) := by unfold faultCode; rw [if_neg h1, if_neg hna, if_neg hn8, if_neg (by rw [hw]; decide)]; rfl
    have HW := Lib.hid hw
    clear ha hna hn8 hw
    go_enter Try.func114, Try.ntmps114
    go_wp2_with fail
    refine (implArenaOK_any _ _ zs _ hn HA.out).mono ?_
    rintro e w1 ⟨rfl, hb⟩
    rw [HH.out]
    have HB1 := Lib.hid (below_trans (below_alloc _ _) hb)
    have HBB1 := Lib.hid (HBB.out.below hb); clear hb
    go_wp2_with fail
    refine (wordsOK_any _ _ ls _ hm HBB1.out).mono ?_
    rintro e w' ⟨rfl, rfl⟩
    rw [HW.out]
    go_wp2
    go_ret
    exact ⟨ret_int HC.out.symm, HB1.out⟩
end Go.Proofs.Ytabojajhnhcemaa

namespace Go.Proofs.Ytabojajhnhcemaa
open Go.RowKit

set_option maxHeartbeats 1000000 in
theorem implAllocCells_any (A B : Option Addr) (c d : Nat) (zs ls : List Int) (w : World) (hn : zs.length ≤ 1048576) (hm : ls.length ≤ 1048576) (hA : Rd w A zs) (hB : Rd w B ls) :
    Calls Try.prog 91 #[.agg #[.slice A zs.length c], .slice B ls.length d] w fun e w' => ∃ C k, e = .returned (.tuple #[.agg #[.slice C (allocZs zs ls).length k], .int .i64 (allocAt zs ls), .int .i64 (allocCode zs ls)]) ∧
      NewA w.heap.size w' C k (allocZs zs ls) ∧ Below w.heap.size w w' := by
  have HA := Lib.hid (hA.below (below_alloc2 w (.cells #[.slice A zs.length c] 25) (.cells #[.slice none 0 0] 25)))
  have HBB := Lib.hid (hB.below (below_alloc2 w (.cells #[.slice A zs.length c] 25) (.cells #[.slice none 0 0] 25)))
  clear hA hB
  cases hz : (faultCode zs ls != 0)
  · have h0 : faultCode zs ls = 0 := by simpa using hz
    obtain ⟨_, _, hp1, hp8, _⟩ := faultCode_zero h0
    by_cases hf : 400 < zs.length + ls.length
    · have HV : Hid (allocZs zs ls = zs) := by unfold allocZs; rw [if_pos h0, if_pos hf]; rfl
      have HD : Hid (allocAt zs ls = 0) := by unfold allocAt; rw [if_pos h0, if_pos hf]; rfl
      have HC : Hid (allocCode zs ls = 7) := by unfold allocCode; rw [if_pos h0, if_pos hf]; rfl
      have hf' : (400 : Int) < (zs.length : Int) + (ls.length : Int) := by omega
      clear h0
      go_enter Try.func91, Try.ntmps91
      go_wp2_with fail
      refine (allocFault_any _ _ _ _ zs ls _ hn hm HA.out HBB.out).mono ?_
      rintro e w1 ⟨rfl, hb⟩
      have HB := Lib.hid (below_trans (below_alloc2 _ _ _) hb)
      have HA1 := Lib.hid (HA.out.below hb)
      have hz1 : w.heap.size + 1 < w1.heap.size := by have := hb.size; simp at this; omega
      have hx1 : w1.cell? ⟨w.heap.size, 0, none⟩ = some (.slice A zs.length c) := cell_keep hb (by simp)
      have hr1 : w1.cell? ⟨w.heap.size + 1, 0, none⟩ = some (.slice none 0 0) := cell_keep hb (by simp)
      have hf1 : w1.frozen? ⟨w.heap.size + 1, 0, none⟩ = false := frozen_keep hb (by simp) (by simp)
      clear hb
      go_wp2_with fail
      refine (copyArena_any _ _ zs _ hn HA1.out).mono ?_
      rintro e w2 ⟨C, k, rfl, hnew, hb⟩
      have HB2 := Lib.hid (below_trans HB.out hb)
      have hr2 : w2.cell? ⟨w.heap.size + 1, 0, none⟩ = some (.slice none 0 0) := cell_keep hb hr1
      have hf2 : w2.frozen? ⟨w.heap.size + 1, 0, none⟩ = false := frozen_keep hb hz1 hf1
      have HO := Lib.hid hnew
      clear hb hnew hx1 hr1 hf1
      go_wp2
      refine bodyPost_ret (v := .tuple #[.agg #[.slice C zs.length k], .int .i64 0, .int .i64 7]) (by simp [results, Try.results91, go_sem, hr2]) rfl ⟨C, k, ?_, ?_, HB2.out.setCell (by simp) _⟩
      · rw [HV.out]; exact ret_agg_int_int HC.out.symm HD.out.symm
      · rw [HV.out]; exact (HO.out.setCell (by simp <;> omega) _).base (by omega)
    · have HV : Hid (allocZs zs ls = zs ++ ls) := by unfold allocZs; rw [if_pos h0, if_neg hf]; rfl
      have HD : Hid (allocAt zs ls = zs.length) := by unfold allocAt; rw [if_pos h0, if_neg hf]; rfl
      have HC : Hid (allocCode zs ls = 0) := by unfold allocCode; rw [if_pos h0, if_neg hf]; rfl
      have HL : Hid ((zs ++ ls).length = zs.length + ls.length) := by rw [List.length_append]; rfl
      have hf' : ¬ (400 : Int) < (zs.length : Int) + (ls.length : Int) := by omega
      clear h0
      go_enter Try.func91, Try.ntmps91
      go_wp2_with fail
      refine (allocFault_any _ _ _ _ zs ls _ hn hm HA.out HBB.out).mono ?_
      rintro e w1 ⟨rfl, hb⟩
      have HB := Lib.hid (below_trans (below_alloc2 _ _ _) hb)
      have HA1 := Lib.hid (HA.out.below hb)
      have HB1 := Lib.hid (HBB.out.below hb)
      have hz1 : w.heap.size + 1 < w1.heap.size := by have := hb.size; simp at this; omega
      have hx1 : w1.cell? ⟨w.heap.size, 0, none⟩ = some (.slice A zs.length c) := cell_keep hb (by simp)
      have hr1 : w1.cell? ⟨w.heap.size + 1, 0, none⟩ = some (.slice none 0 0) := cell_keep hb (by simp)
      have hf1 : w1.frozen? ⟨w.heap.size + 1, 0, none⟩ = false := frozen_keep hb (by simp) (by simp)
      clear hb
      go_wp2_with fail
      go_region_held3 (fun w' => w'.cell? ⟨w.heap.size, 0, none⟩ = some (.slice A zs.length c))
        (first | exact hx1 | exact cell_keep hr0 hx1 | exact cell_keep hr2 (cell_keep hr0 hx1) | exact (World.cell?_setCell_other _ _ _ _ (by simp)).trans (cell_keep hr2 (cell_keep hr0 hx1)))
        (first
          | (go_at_call 57; refine (list_any _ _ _ _).mono ?_; rintro e w2 ⟨rfl, hr0⟩)
          | (go_at_call 115; refine (joined_any _ _ _ _ zs ls _ hn hm hp1 (HA1.out.drew.below hr0) (HB1.out.drew.below hr0)).mono ?_; rintro e w3 ⟨rfl, hnew, hr2⟩; have hc3 : w3.cell? ⟨w.heap.size + 1, 0, none⟩ = some (.slice none 0 0) := cell_keep hr2 (cell_keep hr0 hr1); have hf3 : w3.frozen? ⟨w.heap.size + 1, 0, none⟩ = false := frozen_keep hr2 (Nat.lt_of_lt_of_le hz1 hr0.size) (frozen_keep hr0 hz1 hf1)))
      have hb2 := below_drew_trans (below_trans hr0 hr2)
      have HB3 := Lib.hid (below_trans HB.out hb2)
      have HO := Lib.hid hnew
      have hz2 : w.heap.size + 1 < w2.heap.size := Nat.lt_of_lt_of_le hz1 hr0.size
      clear hr0 hr2 hb2 hnew hx1 hr1 hf1
      go_wp2
      refine bodyPost_ret (v := .tuple #[.agg #[.slice (some ⟨w2.heap.size, 0, none⟩) (zs.length + ls.length) (zs.length + ls.length)], .int .i64 zs.length, .int .i64 0]) (by simp [results, Try.results91, go_sem, hc3]) rfl ⟨some ⟨w2.heap.size, 0, none⟩, zs.length + ls.length, ?_, ?_, HB3.out.setCell (by simp) _⟩
      · rw [HV.out, HL.out]; exact ret_agg_int_int HC.out.symm HD.out.symm
      · rw [HV.out]; exact (HO.out.setCell (by simp <;> omega) _).base (by omega)
  · have hne0 : faultCode zs ls ≠ 0 := by simpa using hz
    have HV : Hid (allocZs zs ls = []) := by unfold allocZs; rw [if_neg hne0]; rfl
    have HD : Hid (allocAt zs ls = 0) := by unfold allocAt; rw [if_neg hne0]; rfl
    have HC : Hid (allocCode zs ls = faultCode zs ls) := by unfold allocCode; rw [if_neg hne0]; rfl
    clear hne0
    go_enter Try.func91, Try.ntmps91
    go_wp2_with fail
    refine (allocFault_any _ _ _ _ zs ls _ hn hm HA.out HBB.out).mono ?_
    rintro e w1 ⟨rfl, hb⟩
    have HB := Lib.hid (below_trans (below_alloc2 _ _ _) hb)
    have hr1 : w1.cell? ⟨w.heap.size + 1, 0, none⟩ = some (.slice none 0 0) := cell_keep hb (by simp)
    have hf1 : w1.frozen? ⟨w.heap.size + 1, 0, none⟩ = false := frozen_keep hb (by simp) (by simp)
    clear hb
    go_wp2
    refine bodyPost_ret (v := .tuple #[.agg #[.slice none 0 0], .int .i64 0, .int .i64 (faultCode zs ls)]) (by simp [results, Try.results91, go_sem, hr1]) rfl ⟨none, 0, ?_, ?_, HB.out.setCell (by simp) _⟩
    · rw [HV.out]; exact ret_agg_int_int HC.out.symm HD.out.symm
    · rw [HV.out]; exact NewA.nil _ _
end Go.Proofs.Ytabojajhnhcemaa

namespace Go.Proofs.Ytabojajhnhcemaa
open Go.RowKit

theorem run_append_rd {P : Program} (w : World) (t ty : TypeId) (base : Nat) (e : TypeId) (i : TypeInfo) (z : Value) (bytes : Nat) (ht : P.underlying t = some (.slice e)) (hi : P.info? e = some i) (hz : i.zero = some z)
    (hsize : i.size = 1) (hby : i.bytes = bytes) (hzs : z.cells.size = 1)
    (v : Value) (xs : List Int) (hown : w.ownsRow base e 1 v xs.length (ints xs))
    (A : Option Addr) (c : Nat) (ys : List Int) (hA : Rd w A ys)
    (hbytes : (xs.length + ys.length) * bytes ≤ 140737488355328) (h63 : xs.length + ys.length ≤ maxLen) (hbase : base ≤ w.heap.size) :
    ∃ B d w', (Builtin.append_ #[t, t] ty #[v, .slice A ys.length c]).run P w = .ok (.slice B (xs ++ ys).length d) w' ∧ w'.ownsRow base e 1 (.slice B (xs ++ ys).length d) (xs ++ ys).length (ints (xs ++ ys)) ∧ w.grownBy w' v.ownBlock := by
  have hlen : (xs ++ ys).length = xs.length + ys.length := by simp
  have he : ints xs ++ ints ys = ints (xs ++ ys) := by simp [ints]
  have hform : ∀ (v' : Value) (w' : World), w'.ownsRow base e 1 v' (xs.length + ys.length) (ints xs ++ ints ys) → ∃ B d, v' = .slice B (xs ++ ys).length d ∧ w'.ownsRow base e 1 (.slice B (xs ++ ys).length d) (xs ++ ys).length (ints (xs ++ ys)) := by
    intro v' w' ho'
    rw [he] at ho'
    rcases ho'.2 with ⟨rfl, h0⟩ | ⟨g, cap, cur, rfl, r⟩
    · refine ⟨none, 0, ?_, ?_⟩
      · rw [hlen, h0]
      · rw [hlen, h0]; rw [h0] at ho'; exact ho'
    · exact ⟨_, _, by rw [hlen], by rw [hlen]; exact ho'⟩
  rcases A with _ | ad
  · have hm : ys.length = 0 := by
      rcases Nat.eq_zero_or_pos ys.length with h0 | h0
      · exact h0
      · obtain ⟨b, o, h, _⟩ := hA 0 h0
        cases h
    obtain rfl : ys = [] := List.eq_nil_of_length_eq_zero hm
    obtain ⟨B, d, hv, hown'⟩ := hform v w (by simpa [ints] using hown)
    refine ⟨B, d, w, ?_, hown', World.grownBy.refl _ _⟩
    rw [← hv]
    exact run_app_nil (P := P) w base t ty e i 1 ht hi v xs.length (ints xs) hown c
  · obtain ⟨v', w', hr, h2, h3, _⟩ := run_append_own (P := P) w base t ty e i z 1 bytes ht hi hz hsize hby hzs (by decide) v xs.length (ints xs) hown ad ys.length c (ints ys) (by rw [length_ints]; omega)
      (by
        intro j u hu
        have hj : j < ys.length := by have := (List.getElem?_eq_some_iff.1 hu).1; rwa [length_ints] at this
        obtain ⟨ad', hA', hc⟩ := rd_cells hA (by omega)
        obtain rfl := Option.some.inj hA'
        exact hc j u hu) (ints_one _) h63 hbytes hbase
    obtain ⟨B, d, rfl, hown'⟩ := hform v' w' h2
    exact ⟨B, d, w', hr, hown', h3⟩

/-- The same as one step of a region that draws its order. -/
theorem step_append_rd {P : Program} {ops : Array Oper} {o : Oper} {a : Act} {w : World} {K : Act → World → Prop} {Q : Exit → Act → World → Prop} {E : Prop}
    (hgd : o.guard = none) (s x : Operand) (t : TypeId) (ho : o.op = Op.call { callee := Callee.builtin Builtin.append, args := #[s, x], argTypes := #[t, t] })
    (base : Nat) (e : TypeId) (i : TypeInfo) (z : Value) (bytes : Nat) (ht : P.underlying t = some (.slice e)) (hi : P.info? e = some i) (hz : i.zero = some z)
    (hsize : i.size = 1) (hby : i.bytes = bytes) (hzs : z.cells.size = 1)
    (v : Value) (xs : List Int) (hs : a.eval s = v) (hown : w.ownsRow base e 1 v xs.length (ints xs))
    (A : Option Addr) (c : Nat) (ys : List Int) (hx : a.eval x = .slice A ys.length c) (hA : Rd w A ys)
    (hbytes : (xs.length + ys.length) * bytes ≤ 140737488355328) (h63 : xs.length + ys.length ≤ maxLen) (hbase : base ≤ w.heap.size)
    (h : ∀ B d w', w'.ownsRow base e 1 (.slice B (xs ++ ys).length d) (xs ++ ys).length (ints (xs ++ ys)) → w.grownBy w' v.ownBlock → K (a.put o.dst (.slice B (xs ++ ys).length d)) w') :
    if Region.wanted o (yielded ops a.tmps) = true then Oper.wp P o a w K Q else E := by
  have hw : Region.wanted o (yielded ops a.tmps) = true := by simp [Region.wanted, hgd]
  rw [if_pos hw]
  obtain ⟨B, d, w', hrun, h2, h3⟩ := run_append_rd (P := P) w t o.type base e i z bytes ht hi hz hsize hby hzs v xs hown A c ys hA hbytes h63 hbase
  unfold Oper.wp execOp
  simp only [ho, resolve, invoke, builtin, Sem.run_bind, Sem.run_pure, Result.andThen_ok, List.map_toArray, List.map_cons, List.map_nil, hs, hx, hrun]
  exact h B d w' h2 h3

theorem grown_frozen {w w' : World} {row : Option Nat} (hg : w.grownBy w' row) {b o : Nat} (hlt : b < w.heap.size) (hne : some b ≠ row) (h : w.frozen? ⟨b, o, none⟩ = false) : w'.frozen? ⟨b, o, none⟩ = false :=
  (World.frozen?_of_block (a := ⟨b, o, none⟩) (hg.block b hlt hne)).trans h

set_option maxHeartbeats 1000000 in
theorem l01Alloc_any (A B : Option Addr) (c d : Nat) (zs ls : List Int) (w : World) (hn : zs.length ≤ 1048576) (hm : ls.length ≤ 1048576) (hA : Rd w A zs) (hB : Rd w B ls) :
    Calls Try.prog 85 #[.agg #[.slice A zs.length c], .slice B ls.length d] w fun e w' => ∃ C k, e = .returned (.tuple #[.agg #[.slice C (if 400 < zs.length + ls.length then zs else zs ++ ls).length k], .int .i64 (if 400 < zs.length + ls.length then 0 else zs.length)]) ∧
      NewA w.heap.size w' C k (if 400 < zs.length + ls.length then zs else zs ++ ls) ∧ Below w.heap.size w w' := by
  have HA0 := Lib.hid hA; have HB0 := Lib.hid hB
  have HA := Lib.hid (hA.below (below_alloc2 w (.cells #[.slice A zs.length c] 25) (.cells #[.slice none 0 0] 25)))
  have HBB := Lib.hid (hB.below (below_alloc2 w (.cells #[.slice A zs.length c] 25) (.cells #[.slice none 0 0] 25)))
  clear hA hB
  by_cases hf : 400 < zs.length + ls.length
  · rw [if_pos hf, if_pos hf]
    have hf' : (400 : Int) < (zs.length : Int) + (ls.length : Int) := by omega
    go_enter Try.func85, Try.ntmps85
    go_wp2_with fail
    refine (l01Own_any _ _ zs _ hn HA.out).mono ?_
    rintro e w2 ⟨C, k, rfl, hnew, hb⟩
    have HB2 := Lib.hid (below_trans (below_alloc2 _ _ _) hb)
    have hr2 : w2.cell? ⟨w.heap.size + 1, 0, none⟩ = some (.slice none 0 0) := cell_keep hb (by simp)
    have hf2 : w2.frozen? ⟨w.heap.size + 1, 0, none⟩ = false := frozen_keep hb (by simp) (by simp)
    have HO := Lib.hid hnew
    clear hb hnew
    go_wp2
    refine bodyPost_ret (v := .tuple #[.agg #[.slice C zs.length k], .int .i64 0]) (by simp [results, Try.results85, go_sem, hr2]) rfl ⟨C, k, rfl, ?_, HB2.out.setCell (by simp) _⟩
    exact (HO.out.setCell (by simp <;> omega) _).base (by simp <;> omega)
  · rw [if_neg hf, if_neg hf]
    have hf' : ¬ (400 : Int) < (zs.length : Int) + (ls.length : Int) := by omega
    obtain ⟨i0, hi, hz0, hz1, hz2⟩ := info_parts Try.infoInt
    have Hi := Lib.hid hi; have Hz0 := Lib.hid hz0; have Hz1 := Lib.hid hz1; have Hz2 := Lib.hid hz2
    clear hi hz0 hz1 hz2
    go_enter Try.func85, Try.ntmps85
    go_wp2_with fail
    have HBa : Hid (Below w.heap.size w (((w.alloc (.cells #[.slice A zs.length c] 25)).alloc (.cells #[.slice none 0 0] 25)).alloc (.cells #[] 3)).drew) := (below_alloc3 _ _ _ _).drew
    have HO1 : Hid (((((w.alloc (.cells #[.slice A zs.length c] 25)).alloc (.cells #[.slice none 0 0] 25)).alloc (.cells #[] 3)).drew).ownsRow (w.heap.size + 1 + 1) 3 1 (.slice (some ⟨w.heap.size + 1 + 1, 0, none⟩) 0 0) ([] : List Int).length (ints [])) := World.ownsRow.drew (own_empty _ _ _ _ (by simp) (by omega))
    have HS1 : Hid (([] : List Int).length + zs.length ≤ maxLen) := by unfold maxLen; show 0 + zs.length ≤ _; omega
    have HS2 : Hid ((([] : List Int).length + zs.length) * 8 ≤ 140737488355328) := by show (0 + zs.length) * 8 ≤ _; omega
    have hs3 : (((w.alloc (.cells #[.slice A zs.length c] 25)).alloc (.cells #[.slice none 0 0] 25)).alloc (.cells #[] 3)).heap.size = w.heap.size + 1 + 1 + 1 := by simp
    have HS3 : Hid (w.heap.size + 1 + 1 ≤ ((((w.alloc (.cells #[.slice A zs.length c] 25)).alloc (.cells #[.slice none 0 0] 25)).alloc (.cells #[] 3)).drew).heap.size) := Nat.le_trans (by omega) (Nat.le_of_eq hs3.symm)
    clear hs3
    have HS4 : Hid (zs.length + ls.length ≤ maxLen) := by unfold maxLen; show zs.length + ls.length ≤ _; omega
    have hx0 : (((w.alloc (.cells #[.slice A zs.length c] 25)).alloc (.cells #[.slice none 0 0] 25)).alloc (.cells #[] 3)).cell? ⟨w.heap.size, 0, none⟩ = some (.slice A zs.length c) := cell_keep (below_alloc _ _) (by simp)
    have HX0 : Hid (((((w.alloc (.cells #[.slice A zs.length c] 25)).alloc (.cells #[.slice none 0 0] 25)).alloc (.cells #[] 3)).drew).cell? ⟨w.heap.size, 0, none⟩ = some (.slice A zs.length c)) := hx0
    have hr0 : (((w.alloc (.cells #[.slice A zs.length c] 25)).alloc (.cells #[.slice none 0 0] 25)).alloc (.cells #[] 3)).cell? ⟨w.heap.size + 1, 0, none⟩ = some (.slice none 0 0) := cell_keep (below_alloc _ _) (by simp)
    have HR0 : Hid (((((w.alloc (.cells #[.slice A zs.length c] 25)).alloc (.cells #[.slice none 0 0] 25)).alloc (.cells #[] 3)).drew).cell? ⟨w.heap.size + 1, 0, none⟩ = some (.slice none 0 0)) := hr0
    have hf0 : (((w.alloc (.cells #[.slice A zs.length c] 25)).alloc (.cells #[.slice none 0 0] 25)).alloc (.cells #[] 3)).frozen? ⟨w.heap.size + 1, 0, none⟩ = false := frozen_keep (below_alloc _ _) (by simp) (by simp)
    have HF0 : Hid (((((w.alloc (.cells #[.slice A zs.length c] 25)).alloc (.cells #[.slice none 0 0] 25)).alloc (.cells #[] 3)).drew).frozen? ⟨w.heap.size + 1, 0, none⟩ = false) := hf0
    clear hx0 hr0 hf0
    have HN1 : Hid (∀ q, Value.ownBlock (.slice (some ⟨w.heap.size + 1 + 1, 0, none⟩) 0 0) = some q → q = w.heap.size + 1 + 1) := by intro q hq; simp [Value.ownBlock] at hq; exact hq.symm
    go_region_held3 (fun w' => w'.cell? ⟨w.heap.size, 0, none⟩ = some (.slice A zs.length c))
      (first | exact hx4 | exact hx3 | exact (World.cell?_setCell_other _ _ _ _ (by simp)).trans hx4 | (simp [go_sem]; done))
      (first
        | (refine step_append_rd rfl (.tmp 15) (.tmp 17) 23 rfl (w.heap.size + 1 + 1) 3 i0 (.int .i64 0) 8 Try.underlying23 Hi.out Hz0.out Hz1.out Hz2.out rfl _ [] rfl HO1.out _ _ zs rfl (HA0.out.below HBa.out) HS2.out HS1.out HS3.out ?_; intro C1 k1 w3 hown3 hgr3; have hb3 := HBa.out.grown hgr3 (Nat.le_trans (by omega) HS3.out) (fun q hq => by have := HN1.out q hq; omega); have hx3 : w3.cell? ⟨w.heap.size, 0, none⟩ = some (.slice A zs.length c) := hgr3.cell HX0.out (fun h => by have := HN1.out _ h.symm; dsimp only at this; omega))
        | (refine step_append_rd rfl (.tmp 18) (.tmp 19) 23 rfl (w.heap.size + 1 + 1) 3 i0 (.int .i64 0) 8 Try.underlying23 Hi.out Hz0.out Hz1.out Hz2.out rfl _ zs rfl hown3 _ _ ls rfl (HB0.out.below hb3) (by omega) HS4.out (Nat.le_trans HS3.out hgr3.size) ?_; intro C2 k2 w4 hown4 hgr4; have hx4 : w4.cell? ⟨w.heap.size, 0, none⟩ = some (.slice A zs.length c) := hgr4.cell hx3 (fun h => by have := (World.ownsRow.lt hown3 _ h.symm).1; dsimp only at this; omega); have hb4 := hb3.grown hgr4 hb3.size (fun q hq => by have := (World.ownsRow.lt hown3 _ hq).1; omega); have hr4 : w4.cell? ⟨w.heap.size + 1, 0, none⟩ = some (.slice none 0 0) := hgr4.cell (hgr3.cell HR0.out (fun h => by have := HN1.out _ h.symm; dsimp only at this; omega)) (fun h => by have := (World.ownsRow.lt hown3 _ h.symm).1; dsimp only at this; omega); have hf4 : w4.frozen? ⟨w.heap.size + 1, 0, none⟩ = false := grown_frozen hgr4 (Nat.lt_of_lt_of_le HS3.out hgr3.size) (fun h => by have := (World.ownsRow.lt hown3 _ h.symm).1; omega) (grown_frozen hgr3 HS3.out (fun h => by have := HN1.out _ h.symm; omega) HF0.out)))
    have HB4 := Lib.hid hb4
    have HO4 : Hid (NewA (w.heap.size + 1 + 1) w4 C2 k2 (zs ++ ls)) := hown4
    have HL : Hid ((zs ++ ls).length = zs.length + ls.length) := List.length_append
    clear hx3 hx4 hgr3 hgr4 hown3 hown4 hb3 hb4
    go_wp2
    refine bodyPost_ret (v := .tuple #[.agg #[.slice C2 (zs.length + ls.length) k2], .int .i64 zs.length]) (by simp [results, Try.results85, go_sem, hr4]) rfl ⟨C2, k2, ?_, ?_, HB4.out.setCell (by simp) _⟩
    · rw [HL.out]
    · exact (HO4.out.setCell (by simp) _).base (by omega)
end Go.Proofs.Ytabojajhnhcemaa

namespace Go.Proofs.Ytabojajhnhcemaa
open Go.RowKit

theorem not_fault {zs ls : List Int} {k : Int} (h : faultCode zs ls = k) (hk : k ≠ 0) : allocZs zs ls = [] ∧ allocAt zs ls = 0 ∧ allocCode zs ls = k := by
  have h0 : faultCode zs ls ≠ 0 := by rw [h]; exact hk
  refine ⟨?_, ?_, ?_⟩
  · unfold allocZs; rw [if_neg h0]
  · unfold allocAt; rw [if_neg h0]
  · unfold allocCode; rw [if_neg h0, h]

end Go.Proofs.Ytabojajhnhcemaa

namespace Go.Proofs.Ytabojajhnhcemaa
open Go.RowKit



theorem leftB_small {n : Nat} (h : ¬ leftB 1048576 n < 0) : n ≤ 1048576 := by
  unfold leftB at h
  by_cases h' : (1048576 : Int) - n < 0
  · rw [if_pos h'] at h; omega
  · omega

end Go.Proofs.Ytabojajhnhcemaa

namespace Go.Proofs.Ytabojajhnhcemaa
open Go.RowKit

theorem leftB_range {l : Int} {n : Nat} (h : ¬ leftB l n < 0) : leftB l n ≤ l ∧ 0 ≤ leftB l n ∧ (n : Int) ≤ l := by
  unfold leftB at *
  by_cases h' : l - n < 0
  · rw [if_pos h'] at h; omega
  · rw [if_neg h'] at h ⊢; omega

end Go.Proofs.Ytabojajhnhcemaa
