/-
  The law FnExactStepQueue at every arena, thread and number: from what program and model answer.
  For every arena, thread and number, the law FnExactStepQueue returns true: StepQueue answers as the model does, changes nothing, and its answer owns its memory. No conditions.
-/
import Derived.Test.YtabojajhnhcemaaJ14
import Derived.Test.YtabojajhnhcemaaJ22
import Derived.Test.YtabojajhnhcemaaJ18
import Derived.Test.YtabojajhnhcemaaJ46
import Derived.Test.YtabojajhnhcemaaJ45
import Derived.Test.YtabojajhnhcemaaRows
import Derived.Test.YtabojajhnhcemaaJ01
namespace Go.Proofs.Ytabojajhnhcemaa
open Go.RowKit

set_option maxHeartbeats 4000000 in
theorem lawStepQueue_big (A : Option Addr) (c : Nat) (zs : List Int) (id st op arg pc til : Int) (per can : Bool) (r0 r1 r2 r3 r4 code res : Int) (now : Int) (w : World) (hn : zs.length ≤ maxLen) (hbig : leftB 1048576 zs.length < 0) :
    Calls Try.prog 4 #[.agg #[.slice A zs.length c], .agg #[.int .i64 id, .int .i64 st, .int .i64 op, .int .i64 arg, .int .i64 pc, .int .i64 til, .bool per, .bool can, .int .i64 r0, .int .i64 r1, .int .i64 r2, .int .i64 r3, .int .i64 r4, .int .i64 code, .int .i64 res], .int .i64 now] w fun e w' => e = .returned (.bool true) ∧ Below w.heap.size w w' := by
  go_enter Try.func4, Try.ntmps4
  go_wp2_with fail
  refine (szArena_any _ _ _ _ _ hn (by decide) (by decide)).mono ?_
  rintro e w1 ⟨rfl, hb⟩
  have HB := Lib.hid hb; clear hb
  go_wp2
  go_ret
  exact ⟨rfl, below_trans (below_alloc2 _ _ _) HB.out⟩
theorem lawStepQueue_walk (A : Option Addr) (c : Nat) (zs : List Int) (id st op arg pc til : Int) (per can : Bool) (r0 r1 r2 r3 r4 code res : Int) (now : Int) (w : World) (hn : zs.length ≤ maxLen) (hA : Rd w A zs) {P : Prop} (_hw : P) :
    Calls Try.prog 4 #[.agg #[.slice A zs.length c], .agg #[.int .i64 id, .int .i64 st, .int .i64 op, .int .i64 arg, .int .i64 pc, .int .i64 til, .bool per, .bool can, .int .i64 r0, .int .i64 r1, .int .i64 r2, .int .i64 r3, .int .i64 r4, .int .i64 code, .int .i64 res], .int .i64 now] w fun e w' => e = .returned (.bool true) ∧ Below w.heap.size w w' := by
  by_cases hbig : leftB 1048576 zs.length < 0
  · exact lawStepQueue_big A c zs id st op arg pc til per can r0 r1 r2 r3 r4 code res now w hn hbig
  have hs := leftB_small hbig
  by_cases hq : askB zs id st op arg pc til per can r0 r1 r2 r3 r4 code res now = 0
  · have hC := askB_cond hq
    obtain ⟨L, ⟨id', st', op', arg', pc', til', per', can', s0, s1, s2, s3, s4, code', res'⟩, wk, h⟩ := step_exists zs id st op arg til per can r0 r1 r2 r3 r4 code res now pc hC.parts.2.2.1
    have hR : L.length ≤ 1048576 := h.len (arenaB_parts hC.ha).2.1
    exact lawStepQueue_of A c zs L id st op arg pc til per can r0 r1 r2 r3 r4 code res now wk 0 id' st' op' arg' pc' til' per' can' s0 s1 s2 s3 s4 code' res' w hn hA hs hbig hR
      (fun w A c hA => specStep_ok id st op arg pc til per can r0 r1 r2 r3 r4 code res now wk id' st' op' arg' pc' til' per' can' s0 s1 s2 s3 s4 code' res' w A c zs hq hA L h)
      (fun w A c hA => implStep_ok id st op arg pc til per can r0 r1 r2 r3 r4 code res now wk id' st' op' arg' pc' til' per' can' s0 s1 s2 s3 s4 code' res' w A c zs hq hA L h)
  · exact lawStepQueue_of A c zs [] id st op arg pc til per can r0 r1 r2 r3 r4 code res now 0 (askB zs id st op arg pc til per can r0 r1 r2 r3 r4 code res now) 0 0 0 0 0 0 false false 0 0 0 0 0 0 0 w hn hA hs hbig (Nat.zero_le _)
      (fun w A c hA => (specStep_zero id st op arg pc til per can r0 r1 r2 r3 r4 code res now _ w A c zs hs rfl (bne_iff_ne.2 hq) hA).mono fun e w' ⟨he, hb⟩ => ⟨none, 0, he, NewA.nil _ _, hb⟩)
      (fun w A c hA => (implStep_zero id st op arg pc til per can r0 r1 r2 r3 r4 code res now _ w A c zs hs rfl (bne_iff_ne.2 hq) hA).mono fun e w' ⟨he, hb⟩ => ⟨none, 0, he, NewA.nil _ _, hb⟩)
end Go.Proofs.Ytabojajhnhcemaa

namespace Go.Proofs.Ytabojajhnhcemaa.PFnExactStepQueue
open Go.ChangeShapes Go.WideShapes Go.ChangeAt Go.RowKit
open Go.ChangeMaps (open_string shut_string)
set_option linter.unusedVariables false

set_option maxRecDepth 100000 in
theorem lifted (os : Os) (started : os.Started) (H : Type) (enc : TypeId × Value → H) :
    ReturnsInHanded {} Try.checked os 4 .any (Rows.fnExactStepQueueSpec.pre6 enc Try.prog Try.f4 Rows.fnExactStepQueueRow.domain false) (Rows.fnExactStepQueueSpec.post enc Try.prog Try.f4 false true false false) := by
  refine returnsInHanded_of_change (C := Try.checked) Try.own started (by kernel_rfl) Try.func4
    (ChangeSpec.witness6 (enc := enc) (C := Try.checked) false ⟨#[], #[.agg #[.slice none 0 0], .agg #[.int .i64 0, .int .i64 0, .int .i64 0, .int .i64 0, .int .i64 0, .int .i64 0, .bool false, .bool false, .int .i64 0, .int .i64 0, .int .i64 0, .int .i64 0, .int .i64 0, .int .i64 0, .int .i64 0], .int .i64 0], []⟩ 8 (by kernel_rfl) (by kernel_rfl) (by kernel_rfl) (by kernel_rfl)) ?_
  intro W base args ds gs before hval0 hW hcnd _
  have hval : ∀ (j : Nat) t v, Try.f4.params[j]? = some t → args[j]? = some v → Value.okWide Try.prog W .any base t v := hval0
  have hW' := hW
  obtain ⟨p, q, hA0, hV, rfl, hfz, hnd⟩ := hW
  have hA : DataW.TrodAll enc Try.prog W 0 (fun _ => true) true Try.f4.params.toList args.toList ds p := hA0
  rw [Try.params4] at hA hval
  obtain ⟨v0, vs0, d0, ds0, p0, q0, hargs, rfl, rfl, h0, r0⟩ := trodAll_cons hA
  obtain ⟨v1, vs1, d1, ds1, p1, q1, rfl, rfl, rfl, h1, r1⟩ := trodAll_cons r0
  obtain ⟨v2, vs2, d2, ds2, p2, q2, rfl, rfl, rfl, h2, r2⟩ := trodAll_cons r1
  obtain ⟨rfl, rfl, rfl⟩ := trodAll_nil r2
  obtain rfl : args = #[v0, v1, v2] := by cases args; simp_all
  obtain ⟨rfl, rfl⟩ := trodVars_none hV
  have k0 := h0
  have lt0 : ∀ x ∈ p0, x.block < W.heap.size := by obtain ⟨m, hm⟩ := k0; exact DataW.trod_lt m _ _ _ hm
  obtain ⟨a0, c0, z0, rfl, n0, w0, u0⟩ := open_arena (hval 0 41 v0 rfl rfl) h0
  have k1 := h1
  have lt1 : ∀ x ∈ p1, x.block < W.heap.size := by obtain ⟨m, hm⟩ := k1; exact DataW.trod_lt m _ _ _ hm
  obtain ⟨b1_0, b1_1, b1_2, b1_3, b1_4, b1_5, b1_6, b1_7, b1_8, b1_9, b1_10, b1_11, b1_12, b1_13, b1_14, rfl⟩ := open_thread (hval 1 42 v1 rfl rfl) h1
  obtain ⟨a2, rfl, rfl, rfl, w2⟩ := open_int Try.underlying3 (hval 2 3 v2 rfl rfl) h2
  clear hA0 hval0
  refine (lawStepQueue_walk a0 c0 z0 b1_0 b1_1 b1_2 b1_3 b1_4 b1_5 b1_6 b1_7 b1_8 b1_9 b1_10 b1_11 b1_12 b1_13 b1_14 a2 W n0 w0 w2).mono fun e W' ⟨he, bel⟩ => ?_
  subst he
  exact ⟨_, rfl, _, _, _, [], _, [], hW', trodAll_mk1 (shut_bool Try.underlying4 _), (trodAll_cons_mk (Below.trod Try.laidOut (by kernel_rfl) (of_decide_eq_true (by kernel_rfl)) k0 bel lt0) (trodAll_cons_mk (Below.trod Try.laidOut (by kernel_rfl) (of_decide_eq_true (by kernel_rfl)) k1 bel lt1) (trodAll_cons_mk (shut_int Try.underlying3 w2) trodAll_mk0))), rfl, bel.frame _, fun h => by cases h⟩
end Go.Proofs.Ytabojajhnhcemaa.PFnExactStepQueue
namespace Go.Proofs.Ytabojajhnhcemaa

theorem fnExactStepQueue_holds : Rows.FnExactStepQueueSaid :=
  OpenClaim.holds_of_wide 4 Try.f4 rfl rfl rfl rfl rfl rfl rfl ⟨rfl, rfl, rfl, rfl, rfl⟩ rfl rfl rfl rfl rfl (by kernel_rfl) Try.func4 (by kernel_rfl)
    (of_decide_eq_true (by kernel_rfl)) (by unfold Func.isWrapper; first | (rw [if_pos (by decide +kernel)]; kernel_rfl) | (rw [if_neg (by decide +kernel)]; exact ⟨rfl, rfl⟩))
    (fun os started H enc _ => PFnExactStepQueue.lifted os started H enc)
end Go.Proofs.Ytabojajhnhcemaa
