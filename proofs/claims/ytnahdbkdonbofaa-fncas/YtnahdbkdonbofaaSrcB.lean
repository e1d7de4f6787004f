/-
  The source of choices: next, l00Source, arena, ArenaDrawn.
-/
import Derived.Test.YtnahdbkdonbofaaSrc
import Derived.Test.YtnahdbkdonbofaaAllocC
import Derived.Test.YtnahdbkdonbofaaLawNewArena
namespace Go.Proofs.Ytnahdbkdonbofaa
open Go.RowKit

set_option maxHeartbeats 1000000 in
theorem next_small (g B : Nat) (A : Option Addr) (n c : Nat) (m q : Int) (w : World) (hm : m ≤ 1000000000000) (hn : n ≤ maxLen) (hq1 : 1 < q) (hq2 : q ≤ 256) (hS : Src w g B A n c m) :
    Calls Try.prog 71 #[.pointer (some ⟨g, 0, none⟩), .int .i64 q] w fun e w' => ∃ r : Int, 0 ≤ r ∧ r < q ∧ e = .returned (.int .i64 r) ∧ Src w' g B A n c (m + 1) ∧ w.grownBy w' (some g) := by
  have HS := Lib.hid hS; clear hS
  go_enter Try.func71, Try.ntmps71
  go_wp2_with fail
  refine (byte_any g B A n c m _ hm hn HS.out).mono ?_
  rintro e w1 ⟨r, hr0, hr1, rfl, hS1, hg1⟩
  have HS1 := Lib.hid hS1; have HG1 := Lib.hid hg1; clear hS1 hg1
  have hqz : (q == 0) = false := by simp; omega
  go_wp2
  go_ret
  refine ⟨r % q, ?_, ?_, ?_, HS1.out, HG1.out⟩
  · exact Int.emod_nonneg _ (by omega)
  · exact Int.emod_lt_of_pos _ (by omega)
  · rfl

set_option maxHeartbeats 1000000 in
theorem l00Source_any (A : Option Addr) (n c : Nat) (w : World) (hn : n ≤ maxLen) (hA : RdB w A n) :
    Calls Try.prog 50 #[.slice A n c] w fun e w' => e = .returned (.pointer (some ⟨w.heap.size, 0, none⟩)) ∧ Src w' w.heap.size w.heap.size A n c 0 ∧ Below w.heap.size w w' := by
  unfold maxLen at hn
  have HA := Lib.hid hA; clear hA
  go_enter Try.func50, Try.ntmps50
  go_wp2
  go_ret
  refine ⟨rfl, ?_, below_alloc _ _⟩
  refine ⟨by simp, ⟨0, (n : Int) % 1000, by simp, by simp, by omega, by omega, by omega, by omega⟩, fun i => by simp, HA.out.below (below_alloc _ _), ?_, Nat.le_refl _⟩
  intro a ha hp
  obtain ⟨b, o, u, hb, hc, _⟩ := HA.out 0 hp
  rw [ha] at hb
  have := block_lt_of_cell hc
  cases hb
  exact this

/-- What a drawn arena is. -/
def Good (zs : List Int) : Prop := 1 ≤ zs.length ∧ zs.getD 0 0 = 0 ∧ wordsB zs = true
theorem Good.start : Good [0] := ⟨by simp, rfl, by decide⟩
theorem Good.snoc {zs : List Int} (h : Good zs) {x : Int} (hx : wordB x = true) : Good (zs ++ [x]) := by
  obtain ⟨h1, h2, h3⟩ := h
  refine ⟨by simp, ?_, ?_⟩
  · rw [List.getD, List.getElem?_append_left (by omega)]; exact h2
  · unfold wordsB at *; rw [List.all_append, h3]; simp [hx]
theorem Good.arena {zs : List Int} (h : Good zs) (hl : zs.length ≤ 400) : arenaB zs = true := arenaB_true h.1 hl (by rw [h.2.1]; rfl) h.2.2

/-- A struct of one slice in a block of its own. -/
def BoxA (w : World) (k : Nat) (v : Value) : Prop := w.heap[k]? = some (.cells #[v] 25 (0, 0))
theorem BoxA.cell {w : World} {k : Nat} {v : Value} (h : BoxA w k v) : w.cell? ⟨k, 0, none⟩ = some v := by rw [cell_of_row w k 0 #[v] _ _ h]; rfl
theorem BoxA.froz {w : World} {k : Nat} {v : Value} (h : BoxA w k v) : w.frozen? ⟨k, 0, none⟩ = false := frozen_of_row w k 0 #[v] _ h
theorem BoxA.new (w : World) (v : Value) : BoxA (w.alloc (.cells #[v] 25)) w.heap.size v := heap_alloc_new w _
theorem BoxA.set {w : World} {k : Nat} {v : Value} (h : BoxA w k v) (u : Value) : BoxA (w.setCell ⟨k, 0, none⟩ u) k u := heap_setCell_same w k 0 #[v] _ u h
theorem BoxA.lt {w : World} {k : Nat} {v : Value} (h : BoxA w k v) : k < w.heap.size := block_lt_of_cell h.cell
theorem BoxA.grown {w w' : World} {k : Nat} {v : Value} {row : Option Nat} (h : BoxA w k v) (hg : w.grownBy w' row) (hne : some k ≠ row) : BoxA w' k v := (hg.block k h.lt hne).trans h
theorem BoxA.below {w w' : World} {k : Nat} {v : Value} (h : BoxA w k v) (hb : Below w.heap.size w w') : BoxA w' k v := (hb.block k h.lt).trans h
/-- A row of integers never lies in such a block. -/
theorem BoxA.ne_own {w : World} {k base n : Nat} {v u : Value} {xs : List Value} (h : BoxA w k v) (ho : w.ownsRow base 3 1 u n xs) : some k ≠ u.ownBlock := by
  rcases ho.2 with ⟨rfl, _⟩ | ⟨g', cap, cur, rfl, _, hh, _⟩
  · simp [Value.ownBlock]
  · intro he
    have : k = g' := by simpa [Value.ownBlock] using he
    subst this
    unfold BoxA at h
    rw [h] at hh
    injection hh with hh
    injection hh with _ ht
    exact absurd ht (by decide)

theorem le_alloc {w : World} {k : Nat} (h : k ≤ w.heap.size) (o : Obj) : k ≤ (w.alloc o).heap.size := by rw [size_alloc]; omega
theorem rd_one (w : World) (x : Int) (k : Nat) (hk : w.heap.size = k) : Rd (w.alloc (.cells #[.int .i64 x] 3)) (some ⟨k, 0, none⟩) [x] := by
  subst hk
  intro i hi
  obtain rfl : i = 0 := by simp at hi; omega
  exact ⟨_, 0, rfl, by simp⟩

/-- One integer appended to a row of the call's own, as a step of a region that draws its order. -/
theorem step_append_one {ops : Array Oper} {o : Oper} {a : Act} {w : World} {K : Act → World → Prop} {Q : Exit → Act → World → Prop} {E : Prop}
    (hgd : o.guard = none) (s x : Operand) (ho : o.op = Op.call { callee := Callee.builtin Builtin.append, args := #[s, x], argTypes := #[23, 23] })
    (base : Nat) (C : Option Addr) (d : Nat) (xs : List Int) (y : Int) (hs : a.eval s = .slice C xs.length d) (hx : a.eval x = .slice (some ⟨w.heap.size, 0, none⟩) 1 1)
    (hown : NewA base w C d xs) (hlen : xs.length ≤ 1048576) (hbase : base ≤ w.heap.size)
    (h : ∀ C' d' w', NewA base w' C' d' (xs ++ [y]) → (w.alloc (.cells #[.int .i64 y] 3)).grownBy w' (Value.ownBlock (.slice C xs.length d)) → K (a.put o.dst (.slice C' (xs.length + 1) d')) w') :
    if Region.wanted o (yielded ops a.tmps) = true then Oper.wp Try.prog o a (w.alloc (.cells #[.int .i64 y] 3)) K Q else E := by
  obtain ⟨i0, hi, hz0, hz1, hz2⟩ := info_parts Try.infoInt
  refine step_append_rd hgd s x 23 ho base 3 i0 (.int .i64 0) 8 Try.underlying23 hi hz0 hz1 hz2 rfl _ xs hs (World.ownsRow.alloc hown _) _ _ [y] hx (rd_one _ _ _ rfl) ?_ ?_ (le_alloc hbase _) ?_
  · show (xs.length + 1) * 8 ≤ _; omega
  · unfold maxLen; show xs.length + 1 ≤ _; omega
  · intro C' d' w' h1 h2
    have e : (xs ++ [y]).length = xs.length + 1 := by simp
    have := h C' d' w' h1 h2
    rw [e]
    exact this

/-- What holds at each round of the drawing of an arena. -/
def ARel (w : World) (a g B : Nat) (A : Option Addr) (n c : Nat) (m : Int) (i : Value) (wr : World) : Prop :=
  ∃ (j : Nat) (zs : List Int) (C : Option Addr) (d : Nat), i = .int .i64 j ∧ zs.length + j ≤ 9 ∧ Good zs ∧ BoxA wr a (.slice C zs.length d) ∧ BoxA wr w.heap.size (.slice none 0 0) ∧ NewA (w.heap.size + 1) wr C d zs ∧ Src wr g B A n c (m + 9 - j) ∧ w.grownBy wr (some g)

theorem grown_new {w a b : World} {row row' : Option Nat} (h : w.grownBy a row) (k : a.grownBy b row') (hr : ∀ q, row' = some q → w.heap.size ≤ q) : w.grownBy b row :=
  ⟨k.os.trans h.os, k.tape.trans h.tape, k.output.trans h.output, Nat.le_trans h.size k.size, fun i hi hne => (k.block i (Nat.lt_of_lt_of_le hi h.size) (fun e => by have := hr i e.symm; omega)).trans (h.block i hi hne)⟩

theorem arel_step {w w3 w4 wr : World} {a g B n c j d d4 : Nat} {A C C4 : Option Addr} {m x : Int} {zs : List Int} (hj : 0 < j) (hj9 : zs.length + j ≤ 9) (hgood : Good zs) (hx : wordB x = true) (hga : g < w.heap.size) (haw : w.heap.size < a)
    (hw : w.grownBy wr (some g)) (hg3 : wr.drew.grownBy w3 (some g)) (hS3 : Src w3 g B A n c (m + 9 - j + 1)) (hX3 : BoxA w3 a (.slice C zs.length d)) (hR3 : BoxA w3 w.heap.size (.slice none 0 0)) (hN3 : NewA (w.heap.size + 1) w3 C d zs)
    (hnew4 : NewA (w.heap.size + 1) w4 C4 d4 (zs ++ [x])) (hgr4 : (w3.alloc (.cells #[.int .i64 x] 3)).grownBy w4 (Value.ownBlock (.slice C zs.length d))) (hb4 : BoxA w4 a (.slice C zs.length d)) :
    ARel w a g B A n c m (.int .i64 ((j : Int) - 1)) (w4.setCell ⟨a, 0, none⟩ (.slice C4 (zs.length + 1) d4)) := by
  have hrow : ∀ q, Value.ownBlock (.slice C zs.length d) = some q → w.heap.size + 1 ≤ q := fun q hq => (World.ownsRow.lt hN3 q hq).1
  have hl : (zs ++ [x]).length = zs.length + 1 := by simp
  have hset := grown_setCell w4 a 0 (.slice C4 (zs.length + 1) d4)
  refine ⟨j - 1, zs ++ [x], C4, d4, ?_, by rw [hl]; omega, hgood.snoc hx, ?_, ?_, ?_, ?_, ?_⟩
  · congr 1; omega
  · rw [hl]; exact hb4.set _
  · exact (((hR3.below (below_alloc _ _)).grown hgr4 (BoxA.ne_own hR3 hN3)).grown hset (by simp; omega))
  · exact hnew4.kept hset (.inr fun e => BoxA.ne_own hb4 hnew4 e.symm)
  · refine ((Src.grown (hS3.below (below_alloc _ _)) hgr4 (fun k hk => ?_)).grown hset (fun k hk => ?_)).mono (by omega)
    · have := hrow k hk; have := hS3.high; omega
    · have := hS3.high; simp only [Option.some.injEq] at hk; omega
  · have h1 : w.grownBy w3 (some g) := grown_trans (b := wr.drew) (grown_drew hw) hg3
    have h2 := grown_trans h1 (grown_below (some g) (below_alloc w3 (.cells #[.int .i64 x] 3)))
    have h3 := grown_new h2 hgr4 (fun q hq => by have := hrow q hq; omega)
    exact grown_new h3 hset (fun q hq => by simp only [Option.some.injEq] at hq; omega)

set_option maxHeartbeats 2000000 in
theorem srcArena_any (g B : Nat) (A : Option Addr) (n c : Nat) (m : Int) (w : World) (hm : m ≤ 1000000000) (hn : n ≤ maxLen) (hS : Src w g B A n c m) :
    Calls Try.prog 51 #[.pointer (some ⟨g, 0, none⟩)] w fun e w' => ∃ zs C d, e = .returned (.agg #[.slice C zs.length d]) ∧ Good zs ∧ zs.length ≤ 9 ∧ NewA w.heap.size w' C d zs ∧ Src w' g B A n c (m + 9) ∧ w.grownBy w' (some g) := by
  have HS := Lib.hid hS; clear hS
  obtain ⟨i0, hi, hz0, hz1, hz2⟩ := info_parts Try.infoInt
  have Hi := Lib.hid hi; have Hz0 := Lib.hid hz0; have Hz1 := Lib.hid hz1; have Hz2 := Lib.hid hz2
  clear hi hz0 hz1 hz2
  have hgw : g < w.heap.size := HS.out.lt
  go_enter Try.func51, Try.ntmps51
  go_wp2_with fail
  refine (specNewArena_any _).mono ?_
  rintro e w1 ⟨C, d, rfl, hnew, hb⟩
  have HB1 := Lib.hid (below_trans (below_alloc _ _) hb)
  have HS1 := Lib.hid (HS.out.below HB1.out)
  have HR1 := Lib.hid ((BoxA.new w (.slice none 0 0)).below hb)
  have HN1 : Hid (NewA (w.heap.size + 1) w1 C d [0]) := by have := hnew; simp only [size_alloc] at this; exact this
  have hz1 : w.heap.size + 1 ≤ w1.heap.size := by have := hb.size; simp only [size_alloc] at this; omega
  clear hb hnew
  go_wp2_with fail
  refine (next_small g B A n c m 9 _ (by omega) hn (by decide) (by decide) (HS1.out.below (below_alloc _ _))).mono ?_
  rintro e w2 ⟨r, hr0, hr1, rfl, hS2, hg2⟩
  have HX2 := Lib.hid ((BoxA.new w1 (.slice C ([0] : List Int).length d)).grown hg2 (by simp; omega))
  have HR2 := Lib.hid ((HR1.out.below (below_alloc _ _)).grown hg2 (by simp; omega))
  have HN2 := Lib.hid ((HN1.out.below (below_alloc _ _)).kept hg2 (by
    rcases hk : Value.ownBlock (.slice C ([0] : List Int).length d) with _ | k
    · exact .inl rfl
    · refine .inr fun e => ?_
      have := (World.ownsRow.lt HN1.out k hk).1
      simp only [Option.some.injEq] at e
      omega))
  have HG2 := Lib.hid (grown_trans (grown_below (some g) (below_trans HB1.out (below_alloc _ _))) hg2)
  have HS2 := Lib.hid hS2
  have hz2 : w1.heap.size + 1 ≤ w2.heap.size := by have := hg2.size; simp only [size_alloc] at this; omega
  clear hS2 hg2
  obtain ⟨j0, rfl⟩ := Int.eq_ofNat_of_zero_le hr0
  go_wp2
  go_loopw [4] (fun i wr => ARel w w1.heap.size g B A n c m i wr) (fun i _ => (intOf i).toNat)
  case atStart => exact ⟨j0, [0], C, d, rfl, by simp; omega, Good.start, HX2.out, HR2.out, HN2.out, HS2.out.mono (by omega), HG2.out⟩
  case round =>
    obtain ⟨j, zs, C', d', rfl, hj9, hgood, hbx, hbr, hnw, hsr, hgw'⟩ := hrel
    have HBX := Lib.hid hbx; have HBR := Lib.hid hbr; have HN := Lib.hid hnw; have HSR := Lib.hid hsr; have HGW := Lib.hid hgw'; have HGD := Lib.hid hgood
    have hxc := hbx.cell
    have hrz : w1.heap.size < wr.heap.size := hbx.lt
    clear hbx hbr hnw hsr hgw' hgood
    by_cases hj : 0 < j
    · have hkeep : Hid (∀ w3 : World, wr.drew.grownBy w3 (some g) → BoxA w3 w1.heap.size (.slice C' zs.length d') ∧ BoxA w3 w.heap.size (.slice none 0 0) ∧ NewA (w.heap.size + 1) w3 C' d' zs) := by
        intro w3 hg3
        refine ⟨BoxA.grown (w := wr.drew) HBX.out hg3 (by simp; omega), BoxA.grown (w := wr.drew) HBR.out hg3 (by simp; omega), NewA.kept (w := wr.drew) HN.out hg3 ?_⟩
        rcases hk : Value.ownBlock (.slice C' zs.length d') with _ | k
        · exact .inl rfl
        · refine .inr fun e => ?_
          have := (World.ownsRow.lt HN.out k hk).1
          simp only [Option.some.injEq] at e
          omega
      have hz9 : zs.length ≤ 1048576 := by omega
      go_wp2
      go_region_law (first
        | (refine step_append_one rfl (.tmp 13) (.tmp 17) rfl (w.heap.size + 1) C' d' zs (r3 - 2) rfl rfl HN3.out hz9 hq3 ?_; intro C4 d4 w4 hnew4 hgr4; have hb4 := (BoxA.below HX3.out (below_alloc _ _)).grown hgr4 (BoxA.ne_own HX3.out HN3.out); have hx4 := hb4.cell; have hf4 := hb4.froz)
        | (go_simp; go_at_call 71; refine (next_small g B A n c (m + 9 - j) 9 wr.drew (by omega) hn (by decide) (by decide) (HSR.out.heap (w' := wr.drew) rfl)).mono ?_; rintro e w3 ⟨r3, hr30, hr31, rfl, hS3, hg3⟩; have hx3 := (hkeep.out w3 hg3).1.cell; have HN3 := Lib.hid (hkeep.out w3 hg3).2.2; have HX3 := Lib.hid (hkeep.out w3 hg3).1; have HR3 := Lib.hid (hkeep.out w3 hg3).2.1; have hq3 : w.heap.size + 1 ≤ w3.heap.size := Nat.le_trans hz1 (Nat.le_of_lt (hkeep.out w3 hg3).1.lt); have hz3 : w1.heap.size < w3.heap.size := (hkeep.out w3 hg3).1.lt; have hwr3 : IntKind.i64.wrap (r3 - 2) = r3 - 2 := IntWalk.i64_in _ (by omega)))
      all_goals
        go_wp2
        refine ⟨arel_step hj hj9 HGD.out ((wordB_iff _).2 (by omega)) hgw (by omega) HGW.out hg3 hS3 HX3.out HR3.out HN3.out hnew4 hgr4 hb4, ?_⟩
        simp [intOf]; omega
    · obtain rfl : j = 0 := by omega
      have hbc := HBR.out.cell; have hbf := HBR.out.froz
      have hne : w1.heap.size ≠ w.heap.size := by omega
      go_wp2
      refine bodyPost_ret (v := .agg #[.slice C' zs.length d']) (by simp [results, Try.results51, go_sem, hbc]) rfl ⟨zs, C', d', rfl, HGD.out, by omega, ?_, ?_, ?_⟩
      · exact (HN.out.setCell (by simp) _).base (by omega)
      · exact (HSR.out.grown (grown_setCell _ _ _ _) (fun k hk => by have := HSR.out.high; simp only [Option.some.injEq] at hk; omega)).mono (by omega)
      · exact grown_new HGW.out (grown_setCell _ _ _ _) (fun q hq => by simp only [Option.some.injEq] at hq; omega)

set_option maxHeartbeats 1000000 in
theorem ArenaDrawn_any (A : Option Addr) (n c : Nat) (w : World) (hn : n ≤ maxLen) (hA : RdB w A n) :
    Calls Try.prog 17 #[.slice A n c] w fun e w' => ∃ zs C d, e = .returned (.agg #[.slice C zs.length d]) ∧ Good zs ∧ zs.length ≤ 9 ∧ NewA w.heap.size w' C d zs ∧ Below w.heap.size w w' := by
  have HA := Lib.hid (hA.below (below_alloc w (.cells #[.slice none 0 0] 25))); clear hA
  go_enter Try.func17, Try.ntmps17
  go_wp2_with fail
  refine (l00Source_any A n c _ hn HA.out).mono ?_
  rintro e w1 ⟨rfl, hS1, hb⟩
  simp only [size_alloc] at hS1
  have HS1 := Lib.hid hS1
  have HR1 := Lib.hid ((BoxA.new w (.slice none 0 0)).below hb)
  have HB1 := Lib.hid (below_trans (below_alloc _ _) hb)
  have hz1 : w.heap.size + 1 ≤ w1.heap.size := by have := hb.size; simp only [size_alloc] at this; omega
  clear hS1 hb
  go_wp2_with fail
  refine (srcArena_any (w.heap.size + 1) (w.heap.size + 1) A n c 0 _ (by decide) hn HS1.out).mono ?_
  rintro e w2 ⟨zs, C, d, rfl, hgood, hl9, hnew, hS2, hg2⟩
  have HGD := Lib.hid hgood
  have hb2 := HR1.out.grown hg2 (by simp)
  have hbc := hb2.cell; have hbf := hb2.froz
  have HB2 := Lib.hid (HB1.out.grown hg2 (by omega) (fun k hk => by simp only [Option.some.injEq] at hk; omega))
  have HN2 := Lib.hid (hnew.base hz1)
  clear hgood hS2 hg2 hb2 hnew
  go_wp2
  refine bodyPost_ret (v := .agg #[.slice C zs.length d]) (by simp [results, Try.results17, go_sem, hbc]) rfl ⟨zs, C, d, rfl, HGD.out, hl9, ?_, HB2.out.setCell (by simp) _⟩
  exact (HN2.out.setCell (by simp) _).base (by omega)
end Go.Proofs.Ytnahdbkdonbofaa
