/-
  The laws' draws of threads and waiters: ThreadDrawn, WaiterDrawn.
-/
import Derived.Test.YtepjaahclcpaaaaDoorDraw
namespace Go.Proofs.YtepjaahclcpaaaaDoor
open Go.RowKit

theorem below_of_grown {w a : World} {g : Nat} (h : w.grownBy a (some g)) (hg : w.heap.size ≤ g) : Below w.heap.size w a := (Below.refl _ _).grown h (Nat.le_refl _) (fun k hk => by simp only [Option.some.injEq] at hk; omega)
theorem SrcF.of {w : World} {g B : Nat} {A : Option Addr} {n c k : Nat} (h : Src w g B A n c 0) (hk : k ≤ 1000000) : SrcF w g B A n c k := Src.mono h (by omega)

/-- What a drawn thread is, nothing old has turned. -/
def DrawnThread (w : World) (e : Ending) (w' : World) : Prop :=
  ∃ (id st op arg pc til : Int) (per can : Bool) (r0 r1 r2 r3 r4 code res : Int), thB id st op arg pc til per can r0 r1 r2 r3 r4 code res = true ∧ e = .returned (.agg #[.int .i64 id, .int .i64 st, .int .i64 op, .int .i64 arg, .int .i64 pc, .int .i64 til, .bool per, .bool can, .int .i64 r0, .int .i64 r1, .int .i64 r2, .int .i64 r3, .int .i64 r4, .int .i64 code, .int .i64 res]) ∧ Below w.heap.size w w'

set_option maxHeartbeats 1000000 in
theorem ThreadDrawn_any (A : Option Addr) (n c : Nat) (w : World) (hn : n ≤ maxLen) (hA : RdB w A n) :
    Calls Tryd.prog 4 #[.slice A n c] w (DrawnThread w) := by
  have HA := Lib.hid (hA.below (below_alloc w (.cells #[.int .i64 0, .int .i64 0, .int .i64 0, .int .i64 0, .int .i64 0, .int .i64 0, .bool false, .bool false, .int .i64 0, .int .i64 0, .int .i64 0, .int .i64 0, .int .i64 0, .int .i64 0, .int .i64 0] 25))); clear hA
  have HN := Lib.hid hn; clear hn
  go_enter Tryd.func4, Tryd.ntmps4
  go_wp2_with fail
  refine (l00Source_any A n c _ HN.out HA.out).mono ?_
  rintro e w1 ⟨rfl, hS1, hb⟩
  simp only [size_alloc] at hS1
  have HS1 := Lib.hid (SrcF.of (k := 12) hS1 (by omega))
  have HR1 := Lib.hid ((BoxT.new w #[.int .i64 0, .int .i64 0, .int .i64 0, .int .i64 0, .int .i64 0, .int .i64 0, .bool false, .bool false, .int .i64 0, .int .i64 0, .int .i64 0, .int .i64 0, .int .i64 0, .int .i64 0, .int .i64 0]).below hb)
  have HB1 := Lib.hid (below_trans (below_alloc w _) hb)
  have hz1 : w.heap.size + 1 ≤ w1.heap.size := by have := hb.size; simp only [size_alloc] at this; exact this
  clear hS1 hb HA
  go_wp2_with fail
  refine (threadF (w.heap.size + 1) (w.heap.size + 1) A n c 0 _ HN.out HS1.out).mono ?_
  rintro e w2 ⟨id, st, op, arg, pc, til, per, can, r0, r1, r2, r3, r4, code, res, hth, rfl, hS2, hg2⟩
  have HR2 := Lib.hid (HR1.out.grown hg2 (by simp))
  have HB2 := Lib.hid (HB1.out.grown hg2 (by omega) (fun k hk => by simp only [Option.some.injEq] at hk; omega))
  have HT := Lib.hid hth
  clear hS2 hg2 HR1 HB1 HS1 hth
  go_wp2_with (refine wpList_store_row rfl 25 _ _ rfl w.heap.size _ rfl rfl 25 _ HR2.out info_th rfl (one15 _ _ _ _ _ _ _ _ _ _ _ _ _ _ _) ?_)
  exact bodyPost_ret (results_one Tryd.results4 _ _ w.heap.size _ rfl (HR2.out.row _) rfl) rfl ⟨_, _, _, _, _, _, _, _, _, _, _, _, _, _, _, HT.out, rfl, below_row HB2.out (Nat.le_refl _) _⟩
end Go.Proofs.YtepjaahclcpaaaaDoor
