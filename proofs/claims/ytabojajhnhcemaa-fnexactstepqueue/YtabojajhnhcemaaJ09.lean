/-
  A step of the queue as a function (chapter 5), and the model's small functions that it takes.
-/
import Derived.Test.YtabojajhnhcemaaJ08
import Derived.Test.YtabojajhnhcemaaJ07
import Derived.Test.YtabojajhnhcemaaJ01
namespace Go.Proofs.Ytabojajhnhcemaa
open Go.RowKit

/-- What a call lays into a node. -/
def firstI (op arg : Int) : Int := if op = 1 then arg + 1 else 0
/-- It brings a value. -/
def mineB (op : Int) : Bool := op == 1
/-- A thread that has ended. -/
def endT (id code res : Int) : Th := ⟨id, 0, 0, 0, 0, 0, false, false, 0, 0, 0, 0, 0, code, res⟩
/-- The code of a call that gives up. -/
def gvCode (can : Bool) : Int := if can then 13 else 12
/-- What a call ends well with. -/
def wellI (op arg x : Int) : Int := if op = 1 then arg else x - 1
/-- A cell that is changed from what it was asked for. -/
def casZ (zs : List Int) (p old v : Int) : List Int := if loadZ zs p = old then putZ zs p v else zs
def casOk (zs : List Int) (p old : Int) : Bool := decide (loadZ zs p = old)
theorem casZ_length (zs : List Int) (p old v : Int) : (casZ zs p old v).length = zs.length := by
  unfold casZ; split
  · exact putZ_length _ _ _
  · rfl

set_option maxHeartbeats 400000 in
theorem l04Mine_any (id st op arg pc til : Int) (per can : Bool) (r0 r1 r2 r3 r4 code res : Int) (w : World) : Calls Try.prog 100 #[.agg #[.int .i64 id, .int .i64 st, .int .i64 op, .int .i64 arg, .int .i64 pc, .int .i64 til, .bool per, .bool can, .int .i64 r0, .int .i64 r1, .int .i64 r2, .int .i64 r3, .int .i64 r4, .int .i64 code, .int .i64 res]] w fun e w' => e = .returned (.bool (mineB op)) ∧ Below w.heap.size w w' := by
  unfold mineB
  go_enter Try.func100, Try.ntmps100
  go_wp2
  go_ret
  exact ⟨rfl, below_alloc _ _⟩

set_option maxHeartbeats 1000000 in
theorem l04Go_any (id st op arg pc til : Int) (per can : Bool) (r0 r1 r2 r3 r4 code res : Int) (n : Int) (w : World) : Calls Try.prog 102 #[.agg #[.int .i64 id, .int .i64 st, .int .i64 op, .int .i64 arg, .int .i64 pc, .int .i64 til, .bool per, .bool can, .int .i64 r0, .int .i64 r1, .int .i64 r2, .int .i64 r3, .int .i64 r4, .int .i64 code, .int .i64 res], .int .i64 n] w fun e w' => e = .returned (.agg #[.int .i64 id, .int .i64 st, .int .i64 op, .int .i64 arg, .int .i64 n, .int .i64 til, .bool per, .bool can, .int .i64 r0, .int .i64 r1, .int .i64 r2, .int .i64 r3, .int .i64 r4, .int .i64 code, .int .i64 res]) ∧ Below w.heap.size w w' := by
  go_enter Try.func102, Try.ntmps102
  go_wp2
  refine bodyPost_ret (v := .agg _) (by simp [results, Try.results102, go_sem]) rfl ⟨rfl, ?_⟩
  exact below_alloc2 _ _ _

set_option maxHeartbeats 1000000 in
theorem l02End_any (id st op arg pc til : Int) (per can : Bool) (r0 r1 r2 r3 r4 code res : Int) (c x : Int) (w : World) : Calls Try.prog 104 #[.agg #[.int .i64 id, .int .i64 st, .int .i64 op, .int .i64 arg, .int .i64 pc, .int .i64 til, .bool per, .bool can, .int .i64 r0, .int .i64 r1, .int .i64 r2, .int .i64 r3, .int .i64 r4, .int .i64 code, .int .i64 res], .int .i64 c, .int .i64 x] w fun e w' => e = .returned (.agg #[.int .i64 id, .int .i64 0, .int .i64 0, .int .i64 0, .int .i64 0, .int .i64 0, .bool false, .bool false, .int .i64 0, .int .i64 0, .int .i64 0, .int .i64 0, .int .i64 0, .int .i64 c, .int .i64 x]) ∧ Below w.heap.size w w' := by
  go_enter Try.func104, Try.ntmps104
  go_wp2
  refine bodyPost_ret (v := .agg _) (by simp [results, Try.results104, go_sem]) rfl ⟨rfl, ?_⟩
  exact below_alloc2 _ _ _

set_option maxHeartbeats 400000 in
theorem l03Code_any (id st op arg pc til : Int) (per can : Bool) (r0 r1 r2 r3 r4 code res : Int) (w : World) : Calls Try.prog 105 #[.agg #[.int .i64 id, .int .i64 st, .int .i64 op, .int .i64 arg, .int .i64 pc, .int .i64 til, .bool per, .bool can, .int .i64 r0, .int .i64 r1, .int .i64 r2, .int .i64 r3, .int .i64 r4, .int .i64 code, .int .i64 res]] w fun e w' => e = .returned (.int .i64 (gvCode can)) ∧ Below w.heap.size w w' := by
  cases can
  all_goals
    go_enter Try.func105, Try.ntmps105
    go_wp2
    go_ret
    exact ⟨rfl, below_alloc _ _⟩

set_option maxHeartbeats 1000000 in
theorem l04First_any (id st op arg pc til : Int) (per can : Bool) (r0 r1 r2 r3 r4 code res : Int) (w : World) (ha : -1000000000000 ≤ arg ∧ arg ≤ 1000000000000) : Calls Try.prog 107 #[.agg #[.int .i64 id, .int .i64 st, .int .i64 op, .int .i64 arg, .int .i64 pc, .int .i64 til, .bool per, .bool can, .int .i64 r0, .int .i64 r1, .int .i64 r2, .int .i64 r3, .int .i64 r4, .int .i64 code, .int .i64 res]] w fun e w' => e = .returned (.int .i64 (firstI op arg)) ∧ Below w.heap.size w w' := by
  have hq : IntKind.i64.wrap (arg + 1) = arg + 1 := IntWalk.i64_in _ (by omega)
  have HL := Lib.hid (BoxT.new w #[.int .i64 id, .int .i64 st, .int .i64 op, .int .i64 arg, .int .i64 pc, .int .i64 til, .bool per, .bool can, .int .i64 r0, .int .i64 r1, .int .i64 r2, .int .i64 r3, .int .i64 r4, .int .i64 code, .int .i64 res])
  by_cases ho : op = 1
  · subst ho
    have hm : mineB 1 = true := rfl
    go_enter Try.func107, Try.ntmps107
    go_wp2_with fail
    refine (l04Mine_any _ _ _ _ _ _ _ _ _ _ _ _ _ _ _ _).mono ?_
    rintro e w1 ⟨rfl, hb⟩
    have HB := Lib.hid (below_trans (below_alloc _ _) hb)
    have hc := (HL.out.below hb).cell
    clear hb
    go_wp2
    go_ret
    exact ⟨rfl, HB.out⟩
  · have hm : mineB op = false := by unfold mineB; simp [ho]
    have HV : Hid (firstI op arg = 0) := by unfold firstI; rw [if_neg ho]; rfl
    go_enter Try.func107, Try.ntmps107
    go_wp2_with fail
    refine (l04Mine_any _ _ _ _ _ _ _ _ _ _ _ _ _ _ _ _).mono ?_
    rintro e w1 ⟨rfl, hb⟩
    have HB := Lib.hid (below_trans (below_alloc _ _) hb)
    clear hb HL
    go_wp2
    go_ret
    exact ⟨ret_int HV.out.symm, HB.out⟩
end Go.Proofs.Ytabojajhnhcemaa
