/-
  Two threads compared (struct and array compared), as the model runs it.
-/
import Derived.Test.YtepjaahclcpaaaaDoorThB
namespace Go.Proofs.YtepjaahclcpaaaaDoor
open Go.RowKit

def eqRegs (a0 a1 a2 a3 a4 b0 b1 b2 b3 b4 : Int) : Bool := a0 == b0 && a1 == b1 && a2 == b2 && a3 == b3 && a4 == b4
def eqTh (id st op arg pc til : Int) (per can : Bool) (r0 r1 r2 r3 r4 code res : Int) (id' st' op' arg' pc' til' : Int) (per' can' : Bool) (s0 s1 s2 s3 s4 code' res' : Int) : Bool :=
  id == id' && st == st' && op == op' && arg == arg' && pc == pc' && til == til' && per == per' && can == can' && eqRegs r0 r1 r2 r3 r4 s0 s1 s2 s3 s4 && code == code' && res == res'

theorem size_int (w : World) : (sizeOf 3).run Tryd.prog w = .ok 1 w := by kernel_rfl

theorem run_eq_regs (d : Nat) (a0 a1 a2 a3 a4 b0 b1 b2 b3 b4 : Int) (w : World) :
    (Op.equalIn (d + 2) 23 (.agg #[.int .i64 a0, .int .i64 a1, .int .i64 a2, .int .i64 a3, .int .i64 a4]) (.agg #[.int .i64 b0, .int .i64 b1, .int .i64 b2, .int .i64 b3, .int .i64 b4])).run Tryd.prog w = .ok (eqRegs a0 a1 a2 a3 a4 b0 b1 b2 b3 b4) w := by
  have pe : ∀ a b, (Op.equalIn (d + 1) 3 (.int .i64 a) (.int .i64 b)).run Tryd.prog w = .ok (a == b) w := fun a b => run_equalIn_int w d 3 .i64 .i64 a b Tryd.underlying3
  have px : ∀ (x0 x1 x2 x3 x4 : Int), (part 3 #[.int .i64 x0, .int .i64 x1, .int .i64 x2, .int .i64 x3, .int .i64 x4] 0).run Tryd.prog w = .ok (.int .i64 x0) w ∧
      (part 3 #[.int .i64 x0, .int .i64 x1, .int .i64 x2, .int .i64 x3, .int .i64 x4] 1).run Tryd.prog w = .ok (.int .i64 x1) w ∧
      (part 3 #[.int .i64 x0, .int .i64 x1, .int .i64 x2, .int .i64 x3, .int .i64 x4] 2).run Tryd.prog w = .ok (.int .i64 x2) w ∧
      (part 3 #[.int .i64 x0, .int .i64 x1, .int .i64 x2, .int .i64 x3, .int .i64 x4] 3).run Tryd.prog w = .ok (.int .i64 x3) w ∧
      (part 3 #[.int .i64 x0, .int .i64 x1, .int .i64 x2, .int .i64 x3, .int .i64 x4] 4).run Tryd.prog w = .ok (.int .i64 x4) w := by
    intro x0 x1 x2 x3 x4
    simp [part, isAgg, run_underlying Tryd.underlying3]
  obtain ⟨a0', a1', a2', a3', a4'⟩ := px a0 a1 a2 a3 a4
  obtain ⟨b0', b1', b2', b3', b4'⟩ := px b0 b1 b2 b3 b4
  rw [Op.equalIn]
  simp only [Sem.run_bind, run_underlying Tryd.underlying23, Result.andThen_ok, size_int, Std.Legacy.Range.forIn_eq_forIn_range', Std.Legacy.Range.size, Nat.sub_zero, Nat.add_sub_cancel, Nat.div_one, Nat.mul_one]
  unfold eqRegs
  cases h0 : (a0 == b0) <;> cases h1 : (a1 == b1) <;> cases h2 : (a2 == b2) <;> cases h3 : (a3 == b3) <;> cases h4 : (a4 == b4)
  all_goals
    simp only [List.range', List.forIn_cons, List.forIn_nil, Sem.run_bind, a0', a1', a2', a3', a4', b0', b1', b2', b3', b4', pe, Result.andThen_ok, Nat.zero_add, Nat.reduceAdd, h0, h1, h2, h3, h4, Bool.not_false, Bool.not_true, if_true, Bool.false_eq_true, if_false, Sem.run_pure, Bool.and_true, Bool.and_false]

theorem run_eq_thread (id st op arg pc til : Int) (per can : Bool) (r0 r1 r2 r3 r4 code res : Int) (id' st' op' arg' pc' til' : Int) (per' can' : Bool) (s0 s1 s2 s3 s4 code' res' : Int) (w : World) :
    (Op.equalIn 10000 25 (.agg #[.int .i64 id, .int .i64 st, .int .i64 op, .int .i64 arg, .int .i64 pc, .int .i64 til, .bool per, .bool can, .int .i64 r0, .int .i64 r1, .int .i64 r2, .int .i64 r3, .int .i64 r4, .int .i64 code, .int .i64 res]) (.agg #[.int .i64 id', .int .i64 st', .int .i64 op', .int .i64 arg', .int .i64 pc', .int .i64 til', .bool per', .bool can', .int .i64 s0, .int .i64 s1, .int .i64 s2, .int .i64 s3, .int .i64 s4, .int .i64 code', .int .i64 res'])).run Tryd.prog w = .ok (eqTh id st op arg pc til per can r0 r1 r2 r3 r4 code res id' st' op' arg' pc' til' per' can' s0 s1 s2 s3 s4 code' res') w := by
  have hr := fun wx => run_eq_regs 9997 r0 r1 r2 r3 r4 s0 s1 s2 s3 s4 wx
  have hq : Tryd.prog.stoodInHeld 25 = false := by kernel_rfl
  rw [show (10000 : Nat) = 9999 + 1 from rfl, run_equalIn_struct w 9999 25 _ _ (by kernel_rfl) hq]
  simp [go_sem, Op.eqFields, Program.fieldsOf, Tryd.underlying25, part, isAgg, run_underlying Tryd.underlying3, run_underlying Tryd.underlying4, run_underlying Tryd.underlying23, hr]
  unfold eqTh
  generalize eqRegs r0 r1 r2 r3 r4 s0 s1 s2 s3 s4 = q
  clear hr hq
  refine if h0 : id = id' then ?_ else (by simp [h0])
  refine if h1 : st = st' then ?_ else (by simp [h1])
  refine if h2 : op = op' then ?_ else (by simp [h2])
  refine if h3 : arg = arg' then ?_ else (by simp [h3])
  refine if h4 : pc = pc' then ?_ else (by simp [h4])
  refine if h5 : til = til' then ?_ else (by simp [h5])
  refine if h6 : per = per' then ?_ else (by simp [h6])
  refine if h7 : can = can' then ?_ else (by simp [h7])
  cases q
  · simp
  refine if h8 : code = code' then ?_ else (by simp [h8])
  refine if h9 : res = res' then ?_ else (by simp [h9])
  simp [h0, h1, h2, h3, h4, h5, h6, h7, h8, h9]

theorem run_eql_thread (id st op arg pc til : Int) (per can : Bool) (r0 r1 r2 r3 r4 code res : Int) (id' st' op' arg' pc' til' : Int) (per' can' : Bool) (s0 s1 s2 s3 s4 code' res' : Int) (w : World) :
    (binOp .eql 25 (.agg #[.int .i64 id, .int .i64 st, .int .i64 op, .int .i64 arg, .int .i64 pc, .int .i64 til, .bool per, .bool can, .int .i64 r0, .int .i64 r1, .int .i64 r2, .int .i64 r3, .int .i64 r4, .int .i64 code, .int .i64 res]) (.agg #[.int .i64 id', .int .i64 st', .int .i64 op', .int .i64 arg', .int .i64 pc', .int .i64 til', .bool per', .bool can', .int .i64 s0, .int .i64 s1, .int .i64 s2, .int .i64 s3, .int .i64 s4, .int .i64 code', .int .i64 res'])).run Tryd.prog w = .ok (.bool (eqTh id st op arg pc til per can r0 r1 r2 r3 r4 code res id' st' op' arg' pc' til' per' can' s0 s1 s2 s3 s4 code' res')) w := by
  rw [run_eql_struct, run_eq_thread]; rfl
theorem run_neq_thread (id st op arg pc til : Int) (per can : Bool) (r0 r1 r2 r3 r4 code res : Int) (id' st' op' arg' pc' til' : Int) (per' can' : Bool) (s0 s1 s2 s3 s4 code' res' : Int) (w : World) :
    (binOp .neq 25 (.agg #[.int .i64 id, .int .i64 st, .int .i64 op, .int .i64 arg, .int .i64 pc, .int .i64 til, .bool per, .bool can, .int .i64 r0, .int .i64 r1, .int .i64 r2, .int .i64 r3, .int .i64 r4, .int .i64 code, .int .i64 res]) (.agg #[.int .i64 id', .int .i64 st', .int .i64 op', .int .i64 arg', .int .i64 pc', .int .i64 til', .bool per', .bool can', .int .i64 s0, .int .i64 s1, .int .i64 s2, .int .i64 s3, .int .i64 s4, .int .i64 code', .int .i64 res'])).run Tryd.prog w = .ok (.bool (!eqTh id st op arg pc til per can r0 r1 r2 r3 r4 code res id' st' op' arg' pc' til' per' can' s0 s1 s2 s3 s4 code' res')) w := by
  rw [run_neq_struct, run_eq_thread]; rfl
theorem eqTh_refl (id st op arg pc til : Int) (per can : Bool) (r0 r1 r2 r3 r4 code res : Int) : eqTh id st op arg pc til per can r0 r1 r2 r3 r4 code res id st op arg pc til per can r0 r1 r2 r3 r4 code res = true := by simp [eqTh, eqRegs]
theorem eqTh_bare (id st op arg pc til : Int) (per can : Bool) (r0 r1 r2 r3 r4 code res : Int) : eqTh id st op arg pc til per can r0 r1 r2 r3 r4 code res id 0 0 0 0 0 false false 0 0 0 0 0 code res = (st == 0 && bareB op arg pc til per can r0 r1 r2 r3 r4) := by
  rw [Bool.eq_iff_iff]
  simp [eqTh, eqRegs, bareB, zeroB]
  constructor
  · intro h; simp_all
  · intro h; simp_all
end Go.Proofs.YtepjaahclcpaaaaDoor
